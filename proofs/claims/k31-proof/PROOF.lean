import PyProof.Rows.All
import Wide.All
import OpenK.AllK
import Wide.FinOn
import HandS.ForMost
import HandS.Flow
import HandS.OwnEq
import HandS.More
import HandS.DictComp
import HandS.List
import KE.KEqDict
import KE.KDictKeyed
import KE.KRevSl
import PyProof.InstNe
import HandS.IsInst
import HandS.SortRule
import HandS.Property
import HandS.ClsMeth
import HandS.Star
import HandS.Codes
import HandS.Strs
import HandS.SetFor
import HandS.RaiseMore
import HandS.Wide
import HandS.Style
import HandS.Walk
import HandS.Zip
import HandS.TupAny
import HandS.Conv
import HandS.Deep
import HandS.Comp
import HandS.Defaults
import HandS.ExcInit
import HandS.Nested
import KE.KExcSuper
import HandS.ForExc
import HandS.ExcIs
import HandS.ExcField
import HandS.SortKw
import HandS.NamedTupSort
import KE.RegKSuper
import PySem.Challenge.RW_wearswings_k31_loads_with_a_count
set_option Elab.async false
set_option linter.all false
set_option maxRecDepth 100000
set_option maxHeartbeats 16000000
/-! del xs[-3:-1] of a list of at least three -/
namespace DS
open PySem PySem.Spec PyProof.Rows L2
def sel (start stop step : Int) (i : Nat) : Bool :=
  if step > 0 then start ≤ i && i < stop && (i - start) % step == 0 else stop < i && i ≤ start && (start - i) % (-step) == 0
theorem sel_iff (a c : Int) (i : Nat) : sel a c 1 i = decide (a ≤ i ∧ (i : Int) < c) := by
  unfold sel
  rw [if_pos (by decide)]
  have e : ((((i : Int) - a) % 1) == 0) = true := by rw [Int.emod_one]; rfl
  rw [e, Bool.and_true]
  by_cases h1 : a ≤ (i : Int) <;> by_cases h2 : (i : Int) < c <;> simp [h1, h2]
def cutOut (a c : Int) (xs : Array Value) : Array Value := (xs.toList.zipIdx.filterMap fun (x, k) => if sel a c 1 k then none else some x).toArray
theorem keep_all {a c : Int} : ∀ (l : List Value) (s : Nat), ((s + l.length : Nat) : Int) ≤ a → (l.zipIdx s).filterMap (fun (x, k) => if sel a c 1 k then none else some x) = l
  | [], _, _ => rfl
  | x :: l, s, h => by
    rw [List.zipIdx_cons, List.filterMap_cons]
    have e : sel a c 1 s = false := by rw [sel_iff]; exact decide_eq_false (by simp only [List.length_cons] at h; omega)
    have ih := keep_all (a := a) (c := c) l (s + 1) (by simp only [List.length_cons] at h; omega)
    simp only [e, Bool.false_eq_true, if_false]
    rw [ih]
theorem cut_three (pre : List Value) (x y z : Value) : cutOut ((pre.length : Nat) : Int) (((pre.length + 2 : Nat)) : Int) (pre ++ [x, y, z]).toArray = (pre ++ [z]).toArray := by
  unfold cutOut
  congr 1
  show ((pre ++ [x, y, z]).zipIdx.filterMap _) = _
  rw [List.zipIdx_append, List.filterMap_append, keep_all pre 0 (by omega)]
  congr 1
  have e1 : sel ((pre.length : Nat) : Int) (((pre.length + 2 : Nat)) : Int) 1 pre.length = true := by rw [sel_iff]; exact decide_eq_true (by omega)
  have e2 : sel ((pre.length : Nat) : Int) (((pre.length + 2 : Nat)) : Int) 1 (pre.length + 1) = true := by rw [sel_iff]; exact decide_eq_true (by omega)
  have e3 : sel ((pre.length : Nat) : Int) (((pre.length + 2 : Nat)) : Int) 1 (pre.length + 1 + 1) = false := by rw [sel_iff]; exact decide_eq_false (by omega)
  simp only [Nat.zero_add, List.zipIdx_cons, List.zipIdx_nil, List.filterMap_cons, List.filterMap_nil, e1, e2, e3, if_true, Bool.false_eq_true, if_false]
theorem bounds31 (n : Nat) : sliceBounds (some (-3)) (some (-1)) none (n + 3) = (((n : Nat) : Int), ((n + 2 : Nat) : Int), 1) := by
  simp only [sliceBounds, Option.getD_none]
  have h1 : (-3 : Int) < 0 := by decide
  have h2 : (-1 : Int) < 0 := by decide
  simp only [h1, h2, if_true, show (1 : Int) > 0 by decide]
  congr 1
  · omega
  · congr 1; omega
section
variable {prog : Program} {w : World} {A : Around} {E : Value → Shared → Prop} {s : Shared}
theorem del31 {l sl : Addr} {its : Array Value} {n : Nat} {vl vu : Value} {Q : Unit → Shared → Prop} (e : s.heap.get? l = some { cls := .type "list", data := .seq its n }) (hs : s.heap.IsSliceOf sl vl vu .none)
    (pl : IsPart vl (some (-3))) (pu : IsPart vu (some (-1))) (m : Nat) (hm : its.size = m + 3) (hz : its.size ≤ sizeLine)
    (h : Q () { s with heap := s.heap.update l (Obj.mapSeq (cutOut (m : Int) ((m + 2 : Nat) : Int))) }) : wpAny (model prog w) A (delItem (.ref l) (.ref sl)) Q E s := by
  have hl : s.heap.IsList l its := PySem.IsL.isList e
  obtain ⟨os, hos, hcs, hds⟩ := id hs
  have hT : s.TypeIs (.ref sl) "slice" := ⟨os, hos, hcs⟩
  have hst : ¬ ((rawPart none == rawInt 0) = true) := Bool.false_ne_true
  refine wpAny_delItem_slot hl.typeIs (by decide) F.slot_list_delitem (wpAny_call_entry F.slot_list_delitem hl.typeIs F.entry_list_delitem ?_ (F.args_list_delitem_2 _ _))
  unfold Builtin.«list.__delitem__»
  refine wpAny_bind (wpAny_of_eq (a := (Value.ref l, [Value.ref sl])) (by first | rfl | kernel_rfl) ?_)
  show wpAny _ _ (Builtin.List.listSubscript? (.ref sl) >>= _) _ _ s
  unfold Builtin.List.listSubscript?
  refine wpAny_bind (wpAny_bind (wpAny_specialOf hT slice_no_index ?_))
  simp only [Option.isNone_none, if_true]
  refine wpAny_pure ?_
  show wpAny _ _ (typeOf (.ref sl) >>= _) _ _ s
  refine wpAny_bind (wpAny_typeOf hT ?_)
  first
    | rw [if_neg (by decide)]
    | refine PySem.W.KFB.if_not (by decide) ?_
  rw [listSliceParts_eq]
  refine wpAny_bind (wpAny_bind (wpAny_field hos hds rfl (wpAny_bind (wpAny_listPart .none ?_))))
  rw [if_neg hst]
  refine wpAny_bind (wpAny_field hos hds rfl (wpAny_bind (wpAny_listPart pl ?_)))
  refine wpAny_bind (wpAny_field hos hds rfl (wpAny_bind (wpAny_listPart pu (wpAny_pure ?_))))
  unfold Builtin.List.listItems
  refine wpAny_bind (wpAny_bind (wpAny_seqItems e rfl (wpAny_pure ?_)))
  rw [hm]
  refine wpAny_bind (wpAny_of_eq ((sliceIndices_raw (some (-3)) (some (-1)) none (m + 3) (by simp)).trans (congrArg (pure : Int × Int × Int → Sem (Int × Int × Int)) (bounds31 m))) ?_)
  refine wpAny_bind (wpAny_rule ?_)
  have hz2 : (cutOut (m : Int) ((m + 2 : Nat) : Int) its).size ≤ sizeLine + 1 := by
    unfold cutOut
    rw [List.size_toArray]
    refine Nat.le_trans (List.length_filterMap_le _ _) ?_
    rw [List.length_zipIdx, Array.length_toList]
    omega
  show wpAny _ _ (updateSeq l (cutOut (m : Int) ((m + 2 : Nat) : Int)) >>= _) _ _ s
  refine wpAny_bind (wpAny_updateSeq (hz := hz) (_hz' := hz2) e rfl ?_)
  refine wpAny_bind (wpAny_letGo ?_)
  first
    | exact wpAny_pure ⟨.none, rfl, h⟩
    | exact wpAny_pure h
end
theorem split3 : ∀ {pre : List V} {x1 y1 z1 : V} {its : List Value}, Vals (pre ++ [x1, y1, z1]) its → ∃ ip i1 i2 i3, its = ip ++ [i1, i2, i3] ∧ Vals pre ip ∧ RelV x1 i1 ∧ RelV y1 i2 ∧ RelV z1 i3
  | [], _, _, _, _, .cons r1 (.cons r2 (.cons r3 .nil)) => ⟨[], _, _, _, rfl, .nil, r1, r2, r3⟩
  | _ :: pre, _, _, _, _, .cons r0 t => by
    obtain ⟨ip, i1, i2, i3, e, rp, h⟩ := split3 (pre := pre) t
    exact ⟨_ :: ip, i1, i2, i3, by rw [e]; rfl, .cons r0 rp, h⟩
section
variable {X : Cx}
/-- del xs[-3:-1] of a list of at least three -/
def tDel31 (to : TE) (tl th : TO) : TS := fun D σ H => to σ H fun x H1 => tl σ H1 fun l H2 => th σ H2 fun u H3 => l = some (-3) ∧ u = some (-1) ∧ ∃ (a : Addr) (pre : List V) (x1 y1 z1 : V), x = .ref a ∧ H3 a = some (.lst (pre ++ [x1, y1, z1])) ∧
  D.nx σ (upd H3 a (.lst (pre ++ [z1])))
theorem ps_del31 {o : Expr} {lo hi : Option Expr} {to : TE} {tl th : TO} {tpos p2 pos : Pos} (ho : PE X o to) (hl : PO X lo tl) (hu : PO X hi th) : PS X (.Delete [.Subscript o (.Slice lo hi none p2) tpos] pos) (tDel31 to tl th) := by
  refine ⟨fun pins s σ H D I h => ?_⟩
  refine wpAny_Delete (wpAny_deleteEach_cons (wpAny_delete_Subscript (thn (ho.run pins s σ H _ I h) fun u s1 ⟨x, H1, I1, rx, q1⟩ => ?_)))
  refine wpAny_Slice (thn (hl.run pins s1 σ H1 _ I1 q1) fun vl s2 ⟨l, H2, I2, pl, q2⟩ => thn (hu.run pins s2 σ H2 _ I2 q2) fun vu s3 ⟨w, H3, I3, pu, q3⟩ => ?_)
  rw [evalPart_none]
  refine wpAny_pure ?_
  obtain ⟨e1, e2, a, pre, x1, y1, z1, rfl, hH, q⟩ := q3
  subst e1 e2
  cases (show u = Value.ref a from rx)
  have I4 : Inv X pins σ H3 { s3 with heap := s3.heap.push { cls := .type "slice", data := .fields #[vl, vu, .none] } } := I3.kept (t' := s3.toks) fun b o e => Heap.get?_push_of_some _ e
  obtain ⟨z, its, n, r, hlen, e⟩ := I4.lstM hH
  have hn : its.length = pre.length + 3 := by rw [← hlen]; simp
  obtain ⟨ip, i1, i2, i3, ei, rp, r1, r2, r3⟩ : ∃ ip i1 i2 i3, its = ip ++ [i1, i2, i3] ∧ Vals pre ip ∧ RelV x1 i1 ∧ RelV y1 i2 ∧ RelV z1 i3 := split3 r
  subst ei
  have hp : ip.length = pre.length := rp.length.symm
  refine del31 e (Heap.IsSliceOf.new ..) pl pu pre.length (by rw [List.size_toArray]; exact hn) (by rw [List.size_toArray, ← hlen]; exact z) (wpAny_deleteEach_nil ⟨σ, _, I4.lset (ys := pre ++ [z1]) (its' := ip ++ [i3]) (t' := s3.toks) hH e ?_ (rp.append (.cons r3 .nil)) ?_, q⟩)
  · rw [← hp]
    exact cut_three ip i1 i2 i3
  · have := z
    simp only [List.length_append, List.length_cons, List.length_nil] at this ⊢
    omega
end
end DS

/-! set(xs) of a list of ints, with the order's ledger kept (for sorted behind it) -/
namespace KS
open PySem PySem.Spec PyProof.Rows L2
abbrev leer (w : World) : Obj := { cls := .type "set", dict := none, data := .set #[] 0 (.fresh 0 0 (!w.params.followText "set-order")) }
section
variable {P : Program} {w : World} {A : Around} {E : Value → Shared → Prop} {s : Shared}
/-- what stands behind set's own __init__ -/
abbrev Made (w : World) (s : Shared) (ns : List Int) (Q : Shared → Prop) : Prop :=
  ∀ (g : Heap) (tk c : Nat), SetR w g s.heap.objs.size (fun j => decide (j ∈ ns)) c → c ≤ ns.length → (∀ b o, s.heap.get? b = some o → g.get? b = some o) → Q { s with heap := g, toks := tk }
set_option maxHeartbeats 6400000 in
theorem set_lst {l : Addr} {its : Array Value} (ns : List Int) {Q : Value → Shared → Prop} (hh : A.handled = none) (hl : s.heap.IsList l its) (hit : IntsAre its.toList ns) (hb : ns.length + 1 < scanBound)
    (h : Made w s ns (Q (.ref s.heap.objs.size))) : wpAny (model P w) A (call (.type "set") [.ref l]) Q E s := by
  have hn : its.size = ns.length := by
    rw [← Array.length_toList]; exact IntsAre.length hit
  obtain ⟨c0, t0, hm⟩ := F.called_set.mro
  have k1 := F.called_set.made; have k2 := F.called_set.sub; have k3 := F.called_set.notType; have k4 := F.called_set.canCreate; have k5 := F.typeCall_set_1 (.ref l)
  refine wpAny_call (codeAny_of_tree (show wpAny _ _ (callAny (.type "set") _) _ _ _ from ?_))
  have uu : A.under (.builtin "type.__call__" ⟨[.type "set", .ref l], []⟩) = A.in1 := Around.under_plain (weight_type_call_type "set" [.ref l] []) rfl
  refine wpAny_pure ⟨Code.quiet_builtin _ (by decide +kernel), codeAny_builtin F.entry_type_call ?_⟩
  rw [show A.under (.builtin "type.__call__" { ({ pos := [Value.ref l] } : Args) with pos := .type "set" :: [Value.ref l] }) = A.in1 from uu]
  repeat (any_goals (first | assumption | wp_step))
  have hs0 : (s.heap.push (leer w)).get? s.heap.objs.size = some (leer w) := Heap.get?_push_size _ rfl
  refine codeAny_mono (code_set_led1 (.ref l) (E := E) (Q₁ := fun x s1 => x = .ref s.heap.objs.size ∧ s1 = { s with heap := s.heap.push (leer w) }) ⟨rfl, rfl⟩) fun r1 s1 e1 => ?_
  match r1, e1 with
  | .error _, e1 => exact e1
  | .ok (.next), e1 => exact e1.elim
  | .ok (.brk), e1 => exact e1.elim
  | .ok (.cont), e1 => exact e1.elim
  | .ok (.ret x), e1 =>
    obtain ⟨rfl, rfl⟩ := e1
    have hT : Shared.TypeIs { s with heap := s.heap.push (leer w) } (.ref s.heap.objs.size) "set" := ⟨_, hs0, rfl⟩
    have j1 := F.called_set.init.lookup; have j2 := F.called_set.init.bind (.ref s.heap.objs.size)
    repeat (any_goals (first | assumption | wp_step))
    refine codeAny_mono (codeAny_call_builtin (R := wants (fun v s2 => v = .none ∧ ∃ g tk c, s2 = { s with heap := g, toks := tk } ∧ SetR w g s.heap.objs.size (fun j => decide (j ∈ ns)) c ∧ c ≤ ns.length ∧ ∀ b o, s.heap.get? b = some o → g.get? b = some o) E)
      F.called_set.init.plain F.entry_set_init (check_set_init_1 hT ?_)) fun r2 s2 e2 => ?_
    · obtain ⟨ol, a1, a2, nl, a3⟩ := hl
      obtain ⟨xc, xd, xt, xs⟩ := ol
      simp only at a2 a3
      subst a2 a3
      have a4 : (s.heap.push (leer w)).get? l = some { cls := .type "list", dict := xd, data := .seq its nl, slots := xs } := Heap.get?_push_of_some _ a1
      have b1 := F.sub_list_set; have b2 := F.sub_list_frozenset; have b3 : (Value.type "list" == Value.type "dict") = false := by decide
      have a5 : (s.heap.push (leer w)).IsList l its := ⟨_, a4, rfl, nl, rfl⟩
      unfold Builtin.«set.__init__» noKeywords Builtin.Frozenset.updateFrom
      generalize hPI : pyIter = PI
      wp_walk
      subst hPI
      refine wpAny_pyIter_list a5 (wpAny_bind (wpAny_runValue ?_))
      have lt := Heap.lt_size a1
      have sz : (s.heap.push (leer w)).objs.size = s.heap.objs.size + 1 := Heap.size_push ..
      have d1 : l ≠ (s.heap.push (leer w)).objs.size := by rw [sz]; exact Nat.ne_of_lt (Nat.lt_succ_of_lt lt)
      have d2 : s.heap.objs.size ∉ [(s.heap.push (leer w)).objs.size, l] := by
        rw [sz]; intro z; rcases List.mem_cons.mp z with z | z
        · exact absurd z (Nat.ne_of_lt (Nat.lt_succ_self _))
        · exact absurd (List.mem_singleton.mp z) (Nat.ne_of_gt lt)
      have vl : ∀ i v, its[i]? = some v → ∃ (k : Int) (t : Tok), ns[i]? = some k ∧ v = Value.int k t := fun i v e => by
        have hi : i < ns.length := by rw [← hn]; exact (Array.getElem?_eq_some_iff.mp e).1
        obtain ⟨t, et⟩ := IntsAre.int_at hit i v (by rw [Array.getElem?_toList]; exact e)
        exact ⟨ns[i], t, List.getElem?_eq_getElem hi, by rw [et, List.getD_eq_getElem?_getD, List.getElem?_eq_getElem hi]; rfl⟩
      have hq : A.in1.in1.in1.handled = none := by simp [hh]
      refine set_update_ints ((Walks.list hq _ l d1 its).toS) s.heap.objs.size d2 ns hn hb vl (its.size - 0) 0 _ (by omega) (Nat.zero_le _) ⟨⟨_, Heap.get?_push_size _ rfl, rfl, rfl⟩, a5.push _⟩
        ⟨0, Nat.le_refl 0, setR_new_at (Heap.get?_push_of_some _ hs0)⟩ fun s3 c3 mv hc3 R3 => ?_
      obtain ⟨g3, gg, dd, tk3, oo⟩ := s3
      obtain rfl : gg = s.gens := mv.gens
      obtain rfl : dd = s.drawn := mv.drawn
      obtain rfl : oo = s.os := mv.os
      refine (show wpAny _ _ _ _ _ _ from wpAny_pure (show wpAny _ _ (ret Value.none) _ _ _ from wpAny_pure ⟨rfl, g3, tk3, c3, rfl, R3, by omega, fun b o e => ?_⟩))
      have hb0 := Heap.lt_size e
      exact mv.heap b o (by rw [sz]; intro z; rcases List.mem_cons.mp z with z | z
                            · exact absurd z (Nat.ne_of_lt hb0)
                            · exact absurd (List.mem_singleton.mp z) (Nat.ne_of_lt (Nat.lt_succ_of_lt hb0))) (Heap.get?_push_of_some _ (Heap.get?_push_of_some _ e))
    · match r2, e2 with
      | .error _, e2 => exact e2
      | .ok (.next), e2 => exact e2.elim
      | .ok (.brk), e2 => exact e2.elim
      | .ok (.cont), e2 => exact e2.elim
      | .ok (.ret y), e2 =>
        obtain ⟨rfl, g, tk, c, rfl, R2, hc, hk⟩ := e2
        repeat (any_goals (first | assumption | wp_step))
        exact h _ _ _ R2 hc hk
end
section
variable {X : Cx}
/-- set(xs) of a list of ints -/
def rSetL (w : World) (K : PySem.W.Frag) : List V → Hp → VK → Prop := fun vs H Q => ∃ (a : Addr) (ns : List Int), vs = [V.ref a] ∧ SqL K H a (ns.map V.int) ∧ ns.length ≤ 1000 ∧
  ∀ (p : Addr) (c : Nat), H p = none → c ≤ ns.length → Q (.ref p) (upd H p (SetO w p (fun j => decide (j ∈ ns)) c))
theorem cr_setL (hc : X.calm = true) : CallR X (.type "set") (rSetL X.w X.K) := by
  intro pins s σ H vs us Q I r h
  obtain ⟨a, ns, rfl, hS, hlen, q⟩ := h
  rw [Vals.ref1 r]
  obtain ⟨its, rv, pl, hz⟩ := I.list hS
  refine set_lst ns (I.ok.hd hc) pl.isList (by simpa using ints_of_vals rv) (by unfold scanBound; omega) fun g tk c R hcn k => ?_
  exact ⟨.ref _, _, I.laid (t' := tk) k (Nat.le_refl _) (setO_new R), rfl, q _ c (I.hok.fresh (Nat.le_refl _)) hcn⟩
end
end KS

/-! repr(xs) of a list of ints; a law's def whose body knows that no repr is under way -/
namespace KG
open PySem PySem.Spec PyProof.Rows L2
/-! ### the text of a list of ints -/
def datL (ns : List Int) : PyData := .list (ns.map PyData.int)
def reprL (ns : List Int) : Str := (datL ns).shown
theorem small_log {i : Int} {k : Nat} (h0 : 0 < k) (h : i.natAbs < 2 ^ k) : i.natAbs.log2 < k := PySem.Flt.log2_lt_of h0 h
theorem show_all : ∀ (ns : List Int), (∀ n ∈ ns, n.natAbs < 2 ^ 40) → PyData.showableAll (ns.map PyData.int) = true
  | [], _ => rfl
  | a :: r, h => by
    have h1 : a.natAbs.log2 < 1920 := Nat.lt_of_lt_of_le (small_log (by decide) (h a List.mem_cons_self)) (by decide)
    have h2 := show_all r fun n hn => h n (List.mem_cons_of_mem _ hn)
    simp only [List.map_cons, PyData.showableAll, PyData.showable, h2, h1, decide_true, Bool.and_self]
theorem nodict_all : ∀ (ns : List Int), PyData.hasDictAll (ns.map PyData.int) = false
  | [] => rfl
  | a :: r => by simp only [List.map_cons, PyData.hasDictAll, PyData.hasDict, nodict_all r, Bool.or_self]
theorem depth_all : ∀ (ns : List Int), PyData.depthAll (ns.map PyData.int) ≤ 1
  | [] => Nat.zero_le _
  | a :: r => by
    have := depth_all r
    simp only [List.map_cons, PyData.depthAll, PyData.depth]
    omega
theorem leaves_all : ∀ (ns : List Int), (∀ n ∈ ns, n.natAbs < 10 ^ 12) → PyData.leavesShortAll 13 (ns.map PyData.int) = true
  | [], _ => rfl
  | a :: r, h => by
    have h2 := leaves_all r fun n hn => h n (List.mem_cons_of_mem _ hn)
    have h1 : (PyData.shown (.int a)).length ≤ 13 := by
      have := PySem.int_text_length_le10 (a := a) (k := 12) (by decide) (h a List.mem_cons_self)
      have e : (PyData.shown (.int a)).length = (toString a).length := by
        simp only [PyData.shown]
        exact PySem.ofString_length _
      omega
    simp only [List.map_cons, PyData.leavesShortAll, PyData.leavesShort, h2, Bool.and_true, decide_eq_true_eq]
    exact h1
theorem weight_all : ∀ (ns : List Int), (∀ n ∈ ns, n.natAbs < 2 ^ 39) → PyData.weightAll (ns.map PyData.int) ≤ 60 * ns.length
  | [], _ => Nat.le_refl _
  | a :: r, h => by
    have h1 := weight_all r fun n hn => h n (List.mem_cons_of_mem _ hn)
    have h2 : a.natAbs.log2 < 39 := small_log (by decide) (h a List.mem_cons_self)
    simp only [List.map_cons, PyData.weightAll, PyData.weight, List.length_cons]
    split <;> omega
theorem repr_fits {ns : List Int} (h : ∀ n ∈ ns, n.natAbs < 2 ^ 39) (hl : ns.length ≤ 2000) : (reprL ns).length ≤ sizeLine := by
  refine PyData.shown_fits (B := 13) (by decide) (by decide) ?_ ?_
  · show PyData.leavesShort 13 (.list _) = true
    simp only [PyData.leavesShort, leaves_all ns fun n hn => Nat.lt_trans (h n hn) (by decide)]
  · show PyData.weight (.list _) ≤ _
    have := weight_all ns h
    simp only [PyData.weight]
    omega
theorem reads_all {h : Heap} : ∀ {us : List Value} {ns : List Int}, IntsAre us ns → ReadsAll h us (ns.map PyData.int) []
  | _, _, .nil => .nil
  | _, _, .cons n t r => by
    have z := ReadsAll.cons (Reads.int (h := h) n t) (reads_all r)
    exact z
section
variable {X : Cx}
/-- repr(xs) of a list of ints, while no repr is under way -/
def rReprL (K : PySem.W.Frag) : List V → Hp → VK → Prop := fun vs H Q => ∃ (a : Addr) (ns : List Int), vs = [V.ref a] ∧ SqL K H a (ns.map V.int) ∧ (∀ n ∈ ns, n.natAbs < 2 ^ 39) ∧ ns.length ≤ 2000 ∧ Q (.str (reprL ns)) H
theorem cr_reprL (hg : X.A.guards = some []) (hu : X.A.units + 100 < cLine) : CallR X (.builtin "repr") (rReprL X.K) := by
  intro pins s σ H vs us Q I r h
  obtain ⟨a, ns, rfl, hS, hb, hl, q⟩ := h
  rw [Vals.ref1 r]
  obtain ⟨its, rv, ⟨o, n, ho, hc, hdn, hd⟩, hz⟩ := I.list hS
  have rd : Reads s.heap (.ref a) (datL ns) [a] := .list ho hc hd (reads_all (by simpa using ints_of_vals rv))
  refine repr_of_reads' rd (by show PyData.showable (.list _) = true; simp only [PyData.showable]; exact show_all ns fun m hm => Nat.lt_trans (hb m hm) (by decide)) (PyData.noDict_hsm (by show PyData.hasDict (.list _) = false; simp only [PyData.hasDict]; exact nodict_all ns)) hg
    (by have := depth_all ns; show X.A.units + (PyData.depth (.list _) + 1) < cLine; simp only [PyData.depth]; omega) (fun _ _ e => e) (fun g u tk k => ?_) (repr_fits hb hl)
  exact ⟨.str (reprL ns), H, I.kept k, ⟨u, rfl⟩, q⟩
end
end KG

/-! the def of the law itself, called where no repr is under way -/
namespace KW
open PySem PySem.Spec PyProof.Rows L2
/-- the def at f keeps sp where it is called with no repr under way -/
def Kept (P : Program) (w : World) (K : PySem.W.Frag) (mg : Str → Option Value) (base : Heap) (k : Nat) (f : Addr) (fd : FuncData) (ps : List Str) (sp : Sp) : Prop :=
  ∀ (A : Around) (outer : List Env) (s : Shared) (H : Hp) (args : Args) (us : List Value) (vs : List V) (Q : VK) (E : XK), A.guards = some [] → Room k A → Env0 P w K mg base A outer s H →
    BindsTo s fd args (ps.zip us) → Vals vs us → sp vs H Q E → codeAny (model P w) A (.call (.ref f) args) (CR CX0 outer P w H s Q E) s
section
variable {P : Program} {w : World} {K : PySem.W.Frag} {mg : Str → Option Value} {base : Heap}
theorem kept_of {x qual : Str} {st : Stmt} {f : Addr} {fd : FuncData} {N ps : List Str} {k : Nat} {sp : Sp} (F : Fun K x qual st f fd) (S : FnScope N ps (defScope st)) (len : ∀ vs H Q E, sp vs H Q E → vs.length = ps.length)
    (hb : ∀ (cdv : Value) (A : Around) (outer : List Env) (s : Shared) (H : Hp) (vs : List V) (Q : VK) (E : XK), A.guards = some [] → Room k (A.deeper (envOfC qual (defScope st) s.heap.objs.size f cdv)) → sp vs H Q E →
      ∃ t, PSs (cxOf CX0 P w K mg base N qual (defScope st) f cdv A outer s H E).nox (defBody st) t ∧ t { nx := fun _ H' => Q .non H', rt := Q } (start N vs) H) : Kept P w K mg base (k + 1) f fd ps sp := by
  obtain ⟨oc, od, kV, doc, pm, an, cdv, ct, osl, e1, lk, hcd⟩ := F.ex
  subst e1
  intro A outer s H args us vs Q E hg hr e0 bnd r hsp
  obtain ⟨t, d, q⟩ := hb cdv A outer s H vs Q E hg (hr.deeper _) hsp
  have lv := len _ _ _ _ hsp
  have kin : K.In s.heap := e0.mod.kin.keeps fun b o e => (e0.bs b o e).1
  have kd : ∀ y ∈ ps.zip us, (defScope st).names.lookup y.1 = some .local ∨ ((defScope st).names.lookup y.1 = some .cell ∧ ((cellsFrom (s.heap.objs.size + 1) (defScope st).names []).lookup y.1).isSome = true) := by
    rintro ⟨n, v⟩ hy
    exact (S.par n (List.of_mem_zip hy).1).imp id fun z => ⟨z, PySem.W.cellsFrom_some _ _ _ (.inl z)⟩
  refine codeAny_call_function hr.depth (kin _ _ lk) rfl S.co S.gen rfl (PySem.W.codeRec_of kin hcd) (bnd _ _ _ _ (wpAny_newFunctionEnv_cells S.kind kd fun env he s1 x1 => ?_))
  subst he
  refine ⟨(e0.mod.nolimit.keeps fun b o e => (e0.bs b o e).1).keeps x1.toInCall.keep, codeAny_func (wpAny_mono (d.nox.run [] s1 (start N vs) H _ (inv_start S hr.hd e0 lv r x1) q) (fun fl s2 z => ?_) fun _ _ z => z)⟩
  match fl, z with
  | .ret u, ⟨v, σ2, H2, J, rv, q2⟩ => exact ⟨v, H2, J.os, J.bare, J.base, J.hok, rv, q2⟩
  | .next, ⟨σ2, H2, J, q2⟩ => exact ⟨V.non, H2, J.os, J.bare, J.base, J.hok, rfl, q2⟩
  | .brk, ⟨_, _, _, q2⟩ => exact q2.elim
  | .cont, ⟨_, _, _, q2⟩ => exact q2.elim
/-- the heap that tracks the script alone, or nothing where it is the text's own -/
def hpOf (K : PySem.W.Frag) (a : Addr) (o : Obj) (xs : List V) : Hp := fun b => if b = a ∧ K.lookup a = none then some (.frz o (.lst xs)) else none
theorem hpOf_some {K : PySem.W.Frag} {a b : Addr} {o : Obj} {xs : List V} {u : HO} (e : hpOf K a o xs b = some u) : b = a ∧ K.lookup a = none ∧ u = .frz o (.lst xs) := by
  unfold hpOf at e
  split at e
  · rename_i z
    exact ⟨z.1, z.2, (Option.some.inj e).symm⟩
  · cases e
theorem run_law {mb : Str → Option Value} {k : Nat} {fa a : Addr} {fd : FuncData} {x : Str} {sp : Sp} {s1 : Shared} {vs : List Value} {ns : List Int}
    (kin : K.In s1.heap) (h1 : s1.heap.Ns mainGlobals mg) (h2 : s1.heap.Ns builtinsNs mb) (h3 : ∀ y : Str, y ≠ "__name__" → mb y = bootBuiltins y) (h4 : s1.heap.NoLimit) (h5 : s1.gens = #[])
    (ha : s1.heap.get? a = some { cls := .type "list", data := .seq vs.toArray }) (hi : IntsAre vs ns) (hl : ns.length ≤ sizeLine) (hr : Room k callerA)
    (F : ∀ bs : Heap, K.In bs → bs.Ns mainGlobals mg → Kept P w K mg bs k fa fd [x] sp) (hbd : ∀ (s : Shared) (u : Value), BindsTo s fd ⟨[u], []⟩ [(x, u)])
    (hsp : ∀ H : Hp, Only H → SqL K H a (ns.map V.int) → sp [.ref a] H (fun v _ => v = .bl true) fun _ _ _ => False) :
    codeAny (model P w) callerA (.call (.ref fa) ⟨[.ref a], []⟩) (fun r s' => r = .ok (.ret (.bool true)) ∧ OldK s1.heap s'.heap ∧ s'.os = s1.os ∧ AllBare s'.gens) s1 := by
  have rv := vals_ints hi
  let ob : Obj := { cls := .type "list", data := .seq vs.toArray }
  generalize hH : hpOf K a ob (ns.map V.int) = H
  have hsome : ∀ {b u}, H b = some u → b = a ∧ K.lookup a = none ∧ u = .frz ob (.lst (ns.map V.int)) := fun {b u} e => hpOf_some (by rw [hH]; exact e)
  have hO : Only H := fun b => by
    cases e : H b with
    | none => exact .inl rfl
    | some u => exact .inr ⟨_, _, by rw [(hsome e).2.2]⟩
  have hS : SqL K H a (ns.map V.int) := by
    cases e : K.lookup a with
    | none => exact .inl (.inr ⟨ob, by rw [← hH]; exact if_pos ⟨rfl, e⟩⟩)
    | some o =>
      have e2 := kin a o e
      rw [ha] at e2
      cases e2
      exact .inr ⟨_, vs.toArray, _, e, rfl, rfl, rfl, by rw [List.size_toArray, hi.length]; exact hl, by simpa using rv⟩
  have hok : HOk P w H s1.heap := fun b u e => by
    obtain ⟨rfl, _, rfl⟩ := hsome e
    exact ⟨ha, by rw [List.length_map]; exact hl, vs, _, rv, ha⟩
  have free : ∀ {b : Addr} {o : Obj} {es : Array DictEntry} {ep : Nat}, s1.heap.get? b = some o → o.data = .dict es ep → H b = none := fun {b o es ep} e d => by
    cases z : H b with
    | none => rfl
    | some u =>
      obtain ⟨rfl, _, _⟩ := hsome z
      rw [ha] at e
      cases e
      cases d
  have toB : ∀ {b : Addr} {m : Str → Option Value}, s1.heap.Ns b m → (hidT s1.heap H).Ns b m := fun {b m} ⟨o, es, ep, e, d, r⟩ => ⟨o, es, ep, hidT_get e (free e d), d, r⟩
  have kB : K.In (hidT s1.heap H) := fun b o e => hidT_get (kin b o e) (by
    cases z : H b with
    | none => rfl
    | some u =>
      obtain ⟨rfl, z2, _⟩ := hsome z
      rw [z2] at e
      cases e)
  obtain ⟨mc, m1, m2⟩ := h4
  have e0 : Env0 P w K mg (hidT s1.heap H) callerA [] s1 H := ⟨rfl, ⟨kB, toB h1, ⟨mb, toB h2, h3⟩, ⟨mc, toB m1, m2⟩⟩, fun b o e => of_hidT e, Nat.le_of_eq (hidT_size _ _), trivial, fun b hb => (List.not_mem_nil (show b ∈ ([] : List Addr) from hb)).elim, hok, .of_eq h5⟩
  refine codeAny_mono (F _ kB (toB h1) callerA [] s1 H ⟨[.ref a], []⟩ [.ref a] [.ref a] _ _ rfl hr e0 (hbd s1 (.ref a)) (.cons rfl .nil) (hsp H hO hS)) fun r s2 z => ?_
  match r, z with
  | .error _, z => exact z.elim
  | .ok .next, z => exact z.elim
  | .ok .brk, z => exact z.elim
  | .ok .cont, z => exact z.elim
  | .ok (.ret u), ⟨v, H2, os, bare, un, hok2, rr, q⟩ =>
    have q2 : v = .bl true := q
    subst q2
    obtain rfl : u = Value.bool true := rr
    refine ⟨rfl, OldK.of_keep fun b o e => ?_, os, bare⟩
    cases z : H b with
    | none => exact un.keep b o e z (fun m => (List.not_mem_nil (show b ∈ ([] : List Addr) from m)).elim) (by simp)
    | some u =>
      obtain ⟨_, _, rfl⟩ := hsome z
      have t1 := (hok b _ z).1
      have t2 := (hok2 b _ (un.frzs b ob _ z)).1
      rw [e] at t1
      rw [t2, ← t1]
/-- the end: the law's promise over the written part alone -/
theorem walk_kept {l : PySem.W.OpenLaw} {n k : Nat} {q : Program} {loose : List Str} {XP : (Str → Option Value) → Heap → Prop} {YP : World → Heap → Prop} {d : DefRec} {KK : Params → PySem.W.Frag} {sp : PySem.W.Frag → Sp} {x : Str}
    (hn : l.most = some n) (hn2 : n ≤ sizeLine) (hdf : d.params.defaults = []) (hr : Room k callerA) (hY : ∀ (w : World) (h : Heap), YP w h → (KK w.params).In h)
    (F : ∀ (w : World) (mg : Str → Option Value) (fa : Addr) (h : Heap), (KK w.params).In h → h.Ns mainGlobals mg → mg d.name = some (.ref fa) →
      ∃ fd : FuncData, (∀ (s : Shared) (u : Value), BindsTo s fd ⟨[u], []⟩ [(x, u)]) ∧ ∀ bs : Heap, (KK w.params).In bs → bs.Ns mainGlobals mg → Kept l.prog w (KK w.params) mg bs k fa fd [x] (sp (KK w.params)))
    (hsp : ∀ (K : PySem.W.Frag) (H : Hp) (a : Addr) (ns : List Int), ns.length ≤ n → Only H → SqL K H a (ns.map V.int) → sp K [.ref a] H (fun v _ => v = .bl true) fun _ _ _ => False) :
    PySem.W.WalkO q loose XP YP l.row.toRowW d [] (fun f vs => PySem.call f vs) := by
  refine Att.attach_call hn hdf fun w s0 s1 mg mb fa o pm cd doc a vs ns G Y ho hd hcd hmg hobj hints hlen hg => ?_
  obtain ⟨fd, hb, hF⟩ := F w mg fa _ (hY w _ Y) G.T.g hmg
  exact run_law (hY w _ Y) G.T.g G.T.b G.T.builtins G.T.nolimit hg hobj hints (Nat.le_trans hlen hn2) hr hF hb fun H hO hS => hsp (KK w.params) H a ns hlen hO hS
end
end KW

/-! turning points, as mathematics: the stack's way and the law's way -/
namespace PM
/-- r lies between its neighbours b and a -/
abbrev Btw (r b a : Int) : Prop := (b < r ∧ r < a) ∨ (a < r ∧ r < b)
/-- the stack's way from b, a (a on top) on -/
def tq : Int → Int → List Int → List Int
  | _, a, [] => [a]
  | b, a, r :: l => if a = r then tq b a l else if Btw a b r then tq b r l else a :: tq a r l
def ts : Int → List Int → List Int
  | a, [] => [a]
  | a, r :: l => if a = r then ts a l else a :: tq a r l
def tp : List Int → List Int
  | [] => []
  | x :: l => ts x l
/-- repeated readings once -/
def ddf : Int → List Int → List Int
  | _, [] => []
  | p, x :: l => if x = p then ddf p l else x :: ddf x l
def dd : List Int → List Int
  | [] => []
  | x :: l => x :: ddf x l
/-- the law's way, over readings that differ from their neighbours -/
def lq : Int → Int → List Int → List Int
  | _, c, [] => [c]
  | p, c, d :: l => if (decide (c > p) = decide (c > d)) then c :: lq c d l else lq c d l
def lp : List Int → List Int
  | [] => []
  | [x] => [x]
  | x :: y :: l => x :: lq x y l
theorem tq_lq : ∀ (l : List Int) (b p a : Int), a ≠ b → a ≠ p → (a > b ↔ a > p) → tq b a l = lq p a (ddf a l)
  | [], _, _, _, _, _, _ => rfl
  | r :: l, b, p, a, h1, h2, h3 => by
    simp only [tq, ddf]
    by_cases e : a = r
    · rw [if_pos e, if_pos e.symm]
      exact tq_lq l b p a h1 h2 h3
    · rw [if_neg e, if_neg (show ¬ r = a from fun z => e z.symm)]
      simp only [lq]
      by_cases bt : Btw a b r
      · rw [if_pos bt]
        have hk : ¬ (decide (a > p) = decide (a > r)) := by
          intro z
          rw [decide_eq_decide] at z
          omega
        rw [if_neg hk]
        exact tq_lq l b a r (by omega) (fun z => e z.symm) (by omega)
      · rw [if_neg bt]
        have hk : decide (a > p) = decide (a > r) := by
          rw [decide_eq_decide]
          omega
        rw [if_pos hk]
        rw [tq_lq l a a r (fun z => e z.symm) (fun z => e z.symm) Iff.rfl]
theorem ts_lp : ∀ (l : List Int) (a : Int), ts a l = lp (a :: ddf a l)
  | [], _ => rfl
  | r :: l, a => by
    simp only [ts, ddf]
    by_cases e : a = r
    · rw [if_pos e, if_pos e.symm]
      exact ts_lp l a
    · rw [if_neg e, if_neg (show ¬ r = a from fun z => e z.symm)]
      rw [tq_lq l a a r (fun z => e z.symm) (fun z => e z.symm) Iff.rfl]
      rfl
theorem tp_lp (ns : List Int) : tp ns = lp (dd ns) := by
  cases ns with
  | nil => rfl
  | cons a l => exact ts_lp l a
/-- what the stack leaves, goes through the stack as it is -/
theorem tq_again : ∀ (l : List Int) (b a : Int), a ≠ b → ∃ x s, tq b a l = x :: s ∧ x ≠ b ∧ (x > b ↔ a > b) ∧ tq b x s = x :: s
  | [], b, a, h => ⟨a, [], rfl, h, Iff.rfl, rfl⟩
  | r :: l, b, a, h => by
    simp only [tq]
    by_cases e : a = r
    · rw [if_pos e]
      exact tq_again l b a h
    · rw [if_neg e]
      by_cases bt : Btw a b r
      · rw [if_pos bt]
        obtain ⟨x, s, h1, h2, h3, h4⟩ := tq_again l b r (by omega)
        exact ⟨x, s, h1, h2, by omega, h4⟩
      · rw [if_neg bt]
        obtain ⟨y, s, h1, h2, h3, h4⟩ := tq_again l a r (fun z => e z.symm)
        refine ⟨a, y :: s, by rw [h1], h, Iff.rfl, ?_⟩
        simp only [tq]
        have n1 : ¬ Btw a b y := by
          intro z
          have h6 : r > a ↔ y > a := h3.symm
          omega
        rw [if_neg (fun z : a = y => h2 z.symm), if_neg n1, h4]
theorem ts_again : ∀ (l : List Int) (a : Int), tp (ts a l) = ts a l
  | [], _ => rfl
  | r :: l, a => by
    simp only [ts]
    by_cases e : a = r
    · rw [if_pos e]
      exact ts_again l a
    · rw [if_neg e]
      obtain ⟨x, s, h1, h2, _, h4⟩ := tq_again l a r (fun z => e z.symm)
      rw [h1]
      show ts a (x :: s) = a :: x :: s
      simp only [ts]
      rw [if_neg (fun z : a = x => h2 z.symm), h4]
theorem tp_again (ns : List Int) : tp (tp ns) = tp ns := by
  cases ns with
  | nil => rfl
  | cons a l => exact ts_again l a
theorem tq_last : ∀ (l : List Int) (b a z : Int), (a :: l).getLast? = some z → tq b a (l ++ [z]) = tq b a l
  | [], b, a, z, h => by
    have e : a = z := Option.some.inj h
    subst e
    show tq b a [a] = [a]
    simp only [tq, if_true]
  | r :: l, b, a, z, h => by
    have h2 : (r :: l).getLast? = some z := by rw [List.getLast?_cons_cons] at h; exact h
    show tq b a (r :: (l ++ [z])) = tq b a (r :: l)
    simp only [tq]
    by_cases e : a = r
    · rw [if_pos e, if_pos e]
      subst e
      exact tq_last l b a z h2
    · rw [if_neg e, if_neg e, tq_last l b r z h2, tq_last l a r z h2]
theorem ts_last : ∀ (l : List Int) (a z : Int), (a :: l).getLast? = some z → ts a (l ++ [z]) = ts a l
  | [], a, z, h => by
    have e : a = z := Option.some.inj h
    subst e
    show ts a [a] = [a]
    simp only [ts, if_true]
  | r :: l, a, z, h => by
    have h2 : (r :: l).getLast? = some z := by rw [List.getLast?_cons_cons] at h; exact h
    show ts a (r :: (l ++ [z])) = ts a (r :: l)
    simp only [ts]
    by_cases e : a = r
    · rw [if_pos e, if_pos e]
      subst e
      exact ts_last l a z h2
    · rw [if_neg e, if_neg e, tq_last l a r z h2]
theorem tp_last (ns : List Int) (z : Int) (h : ns.getLast? = some z) : tp (ns ++ [z]) = tp ns := by
  cases ns with
  | nil => simp at h
  | cons a l => exact ts_last l a z h
/-- sizes and bounds -/
theorem tq_mem : ∀ (l : List Int) (b a x : Int), x ∈ tq b a l → x = a ∨ x ∈ l
  | [], _, _, x, h => .inl (List.mem_singleton.mp h)
  | r :: l, b, a, x, h => by
    simp only [tq] at h
    split at h
    · rcases tq_mem l b a x h with z | z
      · exact .inl z
      · exact .inr (List.mem_cons_of_mem _ z)
    · split at h
      · rcases tq_mem l b r x h with z | z
        · rw [z]; exact .inr List.mem_cons_self
        · exact .inr (List.mem_cons_of_mem _ z)
      · rcases List.mem_cons.mp h with z | z
        · exact .inl z
        · rcases tq_mem l a r x z with z | z
          · rw [z]; exact .inr List.mem_cons_self
          · exact .inr (List.mem_cons_of_mem _ z)
theorem tq_len : ∀ (l : List Int) (b a : Int), (tq b a l).length ≤ l.length + 1
  | [], _, _ => Nat.le_refl _
  | r :: l, b, a => by
    have h1 := tq_len l b a
    have h2 := tq_len l b r
    have h3 := tq_len l a r
    simp only [tq, List.length_cons]
    split
    · omega
    · split
      · omega
      · rw [List.length_cons]; omega
theorem ts_mem : ∀ (l : List Int) (a x : Int), x ∈ ts a l → x = a ∨ x ∈ l
  | [], _, x, h => .inl (List.mem_singleton.mp h)
  | r :: l, a, x, h => by
    simp only [ts] at h
    split at h
    · rcases ts_mem l a x h with z | z
      · exact .inl z
      · exact .inr (List.mem_cons_of_mem _ z)
    · rcases List.mem_cons.mp h with z | z
      · exact .inl z
      · rcases tq_mem l a r x z with z | z
        · rw [z]; exact .inr List.mem_cons_self
        · exact .inr (List.mem_cons_of_mem _ z)
theorem ts_len : ∀ (l : List Int) (a : Int), (ts a l).length ≤ l.length + 1
  | [], _ => Nat.le_refl _
  | r :: l, a => by
    have h1 := ts_len l a
    have h2 := tq_len l a r
    simp only [ts, List.length_cons]
    split
    · omega
    · rw [List.length_cons]; omega
theorem tp_mem {ns : List Int} {x : Int} (h : x ∈ tp ns) : x ∈ ns := by
  cases ns with
  | nil => exact h
  | cons a l =>
    rcases ts_mem l a x h with z | z
    · rw [z]; exact List.mem_cons_self
    · exact List.mem_cons_of_mem _ z
theorem tp_len (ns : List Int) : (tp ns).length ≤ ns.length := by
  cases ns with
  | nil => exact Nat.le_refl _
  | cons a l => exact ts_len l a
/-- the swings of turning points -/
def rg (a b : Int) : Int × Int := (if b < a then b else a, if b > a then b else a)
def sw : List Int → List (Int × Int)
  | x :: y :: l => rg x y :: sw (y :: l)
  | _ => []
theorem sw_len : ∀ ps : List Int, (sw ps).length = ps.length - 1
  | [] => rfl
  | [_] => rfl
  | x :: y :: l => by
    have := sw_len (y :: l)
    simp only [sw, List.length_cons] at this ⊢
    omega
theorem sw_take : ∀ (ps : List Int) (i : Nat) (x y : Int), ps[i]? = some x → ps[i + 1]? = some y → (sw ps).take (i + 1) = (sw ps).take i ++ [rg x y]
  | [], _, _, _, h, _ => by simp at h
  | [_], 0, _, _, _, h => by simp at h
  | [_], i + 1, _, _, h, _ => by simp at h
  | a :: b :: l, 0, x, y, h, h2 => by
    have e1 : a = x := Option.some.inj h
    have e2 : b = y := Option.some.inj h2
    subst e1 e2
    rfl
  | a :: b :: l, i + 1, x, y, h, h2 => by
    have ih := sw_take (b :: l) i x y h h2
    show rg a b :: (sw (b :: l)).take (i + 1) = rg a b :: (sw (b :: l)).take i ++ [rg x y]
    rw [ih]
    rfl
theorem sw_mem : ∀ (ps : List Int) (B : Nat), (∀ x ∈ ps, x.natAbs < B) → ∀ r ∈ sw ps, r.1.natAbs < B ∧ r.2.natAbs < B
  | [], _, _, r, h => by simp [sw] at h
  | [_], _, _, r, h => by simp [sw] at h
  | x :: y :: l, B, hb, r, h => by
    rcases List.mem_cons.mp (show r ∈ rg x y :: sw (y :: l) from h) with z | z
    · have h1 := hb x List.mem_cons_self
      have h2 := hb y (List.mem_cons_of_mem _ List.mem_cons_self)
      rw [z]
      unfold rg
      constructor <;> (dsimp only; split <;> assumption)
    · exact sw_mem (y :: l) B (fun x hx => hb x (List.mem_cons_of_mem _ hx)) r z
end PM

/-! points taken out, in any order: one count -/
namespace RM
open PM
/-- of four points in a row, the middle two may be taken out -/
abbrev Taken (a b c d : Int) : Prop := ((rg a b).1 ≤ (rg b c).1 ∧ (rg b c).2 ≤ (rg a b).2) ∧ ((rg c d).1 ≤ (rg b c).1 ∧ (rg b c).2 ≤ (rg c d).2)
/-- up and down by turns -/
def ZZ : List Int → Prop
  | x :: y :: z :: r => ((x < y ∧ z < y) ∨ (y < x ∧ y < z)) ∧ ZZ (y :: z :: r)
  | [x, y] => x ≠ y
  | _ => True
inductive Step : List Int → Int × Int → List Int → Prop
  | here {a b c d : Int} {post : List Int} : Taken a b c d → Step (a :: b :: c :: d :: post) (rg b c) (a :: d :: post)
  | there {x : Int} {p q : List Int} {cy : Int × Int} : Step p cy q → Step (x :: p) cy (x :: q)
theorem ZZ.tail {x : Int} : ∀ {p : List Int}, ZZ (x :: p) → ZZ p
  | [], _ => trivial
  | [_], _ => trivial
  | [y, z], h => by
    have h1 := h.1
    show y ≠ z
    omega
  | y :: z :: u :: r, h => h.2
theorem Step.head {x : Int} {p q : List Int} {cy : Int × Int} (h : Step (x :: p) cy q) : ∃ q', q = x :: q' := by
  cases h with
  | here _ => exact ⟨_, rfl⟩
  | there _ => exact ⟨_, rfl⟩
theorem Step.len {p q : List Int} {cy : Int × Int} (h : Step p cy q) : p.length = q.length + 2 := by
  induction h with
  | here _ => simp only [List.length_cons]
  | there _ ih => simp only [List.length_cons]; omega
theorem rg_up {a b : Int} (h : a < b) : rg a b = (a, b) := by unfold rg; rw [if_neg (by omega), if_pos (by omega)]
theorem rg_down {a b : Int} (h : b < a) : rg a b = (b, a) := by unfold rg; rw [if_pos h, if_neg (by omega)]
/-- among points that go up and down -/
theorem taken_iff {a b c d : Int} (h : ZZ (a :: b :: c :: d :: [])) : Taken a b c d ↔ (a < b ∧ c < b ∧ c < d ∧ a ≤ c ∧ b ≤ d) ∨ (b < a ∧ b < c ∧ d < c ∧ c ≤ a ∧ d ≤ b) := by
  have h1 := h.1
  have h2 := h.2.1
  unfold Taken
  rcases h1 with ⟨x, y⟩ | ⟨x, y⟩
  · have z : c < d := by omega
    rw [rg_up x, rg_down y, rg_up z]
    dsimp only
    omega
  · have z : d < c := by omega
    rw [rg_down x, rg_up y, rg_down z]
    dsimp only
    omega
theorem ZZ.four {a b c d : Int} {r : List Int} (h : ZZ (a :: b :: c :: d :: r)) : ZZ (a :: b :: c :: d :: []) := by
  refine ⟨h.1, h.2.1, ?_⟩
  have := h.2.1
  show c ≠ d
  omega
theorem zz_here {a b c d : Int} : ∀ {post : List Int}, ZZ (a :: b :: c :: d :: post) → Taken a b c d → ZZ (a :: d :: post)
  | [], h, t => by
    rcases (taken_iff h.four).mp t with z | z
    · show a ≠ d
      omega
    · show a ≠ d
      omega
  | e :: r, h, t => by
    have h3 := h.2.2.1
    refine ⟨?_, h.2.2.2⟩
    rcases (taken_iff h.four).mp t with z | z <;> omega
theorem zz_cons {x y : Int} {p : List Int} (h : ZZ (x :: y :: p)) : x ≠ y := by
  cases p with
  | nil => exact h
  | cons z r => have := h.1; omega
theorem ZZ.step {p q : List Int} {cy : Int × Int} (h : Step p cy q) : ZZ p → ZZ q := by
  induction h with
  | here t => exact fun z => zz_here z t
  | @there x p q cy h ih =>
    intro z
    have zq := ih z.tail
    cases h with
    | @here a b c d post t =>
      have z1 := z.1
      have ti := (taken_iff z.tail.four).mp t
      refine ⟨?_, zq⟩
      rcases ti with t | t <;> omega
    | @there y p' q' cy' h' =>
      cases q' with
      | nil =>
        have := h'.len
        exact zz_cons z
      | cons u v =>
        cases p' with
        | nil => have := h'.len; simp at this
        | cons u' v' =>
          obtain ⟨v'', e⟩ := h'.head
          have e1 : u = u' := (List.cons.inj e).1
          subst e1
          exact ⟨z.1, zq⟩
/-- two ways to go on meet again -/
theorem diamond {p p1 : List Int} {c1 : Int × Int} (h1 : Step p c1 p1) : ∀ {p2 : List Int} {c2 : Int × Int}, Step p c2 p2 → ZZ p → (c1 = c2 ∧ p1 = p2) ∨ ∃ p3, Step p1 c2 p3 ∧ Step p2 c1 p3 := by
  have key : ∀ {a b c d : Int} {post : List Int} {p2 : List Int} {c2 : Int × Int}, Taken a b c d → Step (b :: c :: d :: post) c2 p2 → ZZ (a :: b :: c :: d :: post) →
      (rg b c = c2 ∧ a :: d :: post = a :: p2) ∨ ∃ p3, Step (a :: d :: post) c2 p3 ∧ Step (a :: p2) (rg b c) p3 := by
    intro a b c d post p2 c2 t h z
    have t1 := (taken_iff z.four).mp t
    cases h with
    | @here _ _ _ e post' t2 =>
      have t3 := (taken_iff z.tail.four).mp t2
      have ebd : b = d := by omega
      subst ebd
      refine .inl ⟨?_, rfl⟩
      have z1 := z.1
      rcases z1 with ⟨x, y⟩ | ⟨x, y⟩
      · rw [rg_down y, rg_up y]
      · rw [rg_up y, rg_down y]
    | @there _ _ q2 _ h2 =>
      cases h2 with
      | @here _ _ e f post' t2 =>
        have t3 := (taken_iff z.tail.tail.four).mp t2
        have za : ZZ (a :: d :: e :: f :: post') := zz_here z t
        have zb : ZZ (a :: b :: c :: f :: post') := ZZ.step (.there (.there (.here t2))) z
        exact .inr ⟨a :: f :: post', .here ((taken_iff za.four).mpr (by omega)), .here ((taken_iff zb.four).mpr (by omega))⟩
      | @there _ _ q3 _ h3 =>
        obtain ⟨q4, rfl⟩ := h3.head
        exact .inr ⟨a :: d :: q4, .there h3, .here t⟩
  induction h1 with
  | @here a b c d post t =>
    intro p2 c2 h2 z
    cases h2 with
    | here _ => exact .inl ⟨rfl, rfl⟩
    | @there _ _ q2 _ h2 => exact key t h2 z
  | @there x p q cy h1 ih =>
    intro p2 c2 h2 z
    cases h2 with
    | @here a b c d post t =>
      rcases key t h1 z with ⟨e1, e2⟩ | ⟨p3, s1, s2⟩
      · exact .inl ⟨e1.symm, e2.symm⟩
      · exact .inr ⟨p3, s2, s1⟩
    | @there _ _ q2 _ h2 =>
      rcases ih h2 z.tail with ⟨e1, e2⟩ | ⟨p3, s1, s2⟩
      · exact .inl ⟨e1, by rw [e2]⟩
      · exact .inr ⟨x :: p3, .there s1, .there s2⟩
inductive Run : List Int → List (Int × Int) → List Int → Prop
  | nil (p : List Int) : Run p [] p
  | cons {p q r : List Int} {c : Int × Int} {cs : List (Int × Int)} : Step p c q → Run q cs r → Run p (c :: cs) r
/-- nothing can be taken out -/
def NF (p : List Int) : Prop := ∀ c q, ¬ Step p c q
theorem Run.snoc {p q r : List Int} {c : Int × Int} {cs : List (Int × Int)} (h : Run p cs q) (s : Step q c r) : Run p (cs ++ [c]) r := by
  induction h with
  | nil p => exact .cons s (.nil _)
  | cons h1 _ ih => exact .cons h1 (ih s)
theorem Run.zz {p q : List Int} {cs : List (Int × Int)} (h : Run p cs q) : ZZ p → ZZ q := by
  induction h with
  | nil p => exact id
  | cons h1 _ ih => exact fun z => ih (ZZ.step h1 z)
theorem Run.len {p q : List Int} {cs : List (Int × Int)} (h : Run p cs q) : p.length = q.length + 2 * cs.length := by
  induction h with
  | nil p => simp
  | cons h1 _ ih => have := h1.len; rw [List.length_cons]; omega
theorem ends : ∀ (n : Nat) (p : List Int), p.length ≤ n → ∃ cs r, Run p cs r ∧ NF r
  | 0, p, h => ⟨[], p, .nil p, fun c q s => by have := s.len; omega⟩
  | n + 1, p, h => by
    by_cases e : ∃ c q, Step p c q
    · obtain ⟨c, q, s⟩ := e
      have := s.len
      obtain ⟨cs, r, h1, h2⟩ := ends n q (by omega)
      exact ⟨c :: cs, r, .cons s h1, h2⟩
    · exact ⟨[], p, .nil p, fun c q s => e ⟨c, q, s⟩⟩
/-- in whatever order points are taken out, the same cycles and the same rest come out -/
theorem unique : ∀ (n : Nat) (p : List Int), p.length ≤ n → ZZ p → ∀ {cs ds : List (Int × Int)} {r s : List Int}, Run p cs r → NF r → Run p ds s → NF s → r = s ∧ cs.Perm ds := by
  intro n
  induction n with
  | zero =>
    intro p hp z cs ds r s h1 n1 h2 n2
    cases h1 with
    | nil _ => cases h2 with
      | nil _ => exact ⟨rfl, .nil⟩
      | cons s2 _ => exact absurd s2 (n1 _ _)
    | cons s1 _ => have := s1.len; omega
  | succ n ih =>
    intro p hp z cs ds r s h1 n1 h2 n2
    cases h1 with
    | nil _ => cases h2 with
      | nil _ => exact ⟨rfl, .nil⟩
      | cons s2 _ => exact absurd s2 (n1 _ _)
    | @cons _ q1 _ c1 cs' s1 r1 =>
      cases h2 with
      | nil _ => exact absurd s1 (n2 _ _)
      | @cons _ q2 _ c2 ds' s2 r2 =>
        have l1 := s1.len
        have l2 := s2.len
        rcases diamond s1 s2 z with ⟨e1, e2⟩ | ⟨p3, t1, t2⟩
        · subst e1 e2
          obtain ⟨e, pm⟩ := ih q1 (by omega) (ZZ.step s1 z) r1 n1 r2 n2
          exact ⟨e, pm.cons _⟩
        · obtain ⟨es, t, r3, n3⟩ := ends p3.length p3 (Nat.le_refl _)
          obtain ⟨e1, m1⟩ := ih q1 (by omega) (ZZ.step s1 z) r1 n1 (.cons t1 r3) n3
          obtain ⟨e2, m2⟩ := ih q2 (by omega) (ZZ.step s2 z) r2 n2 (.cons t2 r3) n3
          refine ⟨e1.trans e2.symm, ?_⟩
          exact ((m1.cons c1).trans (.swap c2 c1 es)).trans (m2.symm.cons c2)
theorem one_count {p : List Int} (z : ZZ p) {cs ds : List (Int × Int)} {r s : List Int} (h1 : Run p cs r) (n1 : NF r) (h2 : Run p ds s) (n2 : NF s) : r = s ∧ cs.Perm ds := unique p.length p (Nat.le_refl _) z h1 n1 h2 n2
/-! ### the stack's way -/
theorem Step.suffix {p q : List Int} {cy : Int × Int} (h : Step p cy q) (l : List Int) : Step (p ++ l) cy (q ++ l) := by
  induction h with
  | here t => exact .here t
  | there _ ih => exact .there ih
theorem Step.prefix {p q : List Int} {cy : Int × Int} (h : Step p cy q) : ∀ l : List Int, Step (l ++ p) cy (l ++ q)
  | [] => h
  | x :: l => .there (h.prefix l)
theorem step_last {p : List Int} {cy : Int × Int} {q : List Int} (h : Step p cy q) : ∀ {m : List Int} {x : Int}, p = m ++ [x] → (∃ q', Step m cy q' ∧ q = q' ++ [x]) ∨ ∃ pre a b c, p = pre ++ [a, b, c, x] ∧ Taken a b c x := by
  induction h with
  | @here a b c d post t =>
    intro m x e
    rcases List.eq_nil_or_concat post with rfl | ⟨post', y, rfl⟩
    · have e2 : [a, b, c] ++ [d] = m ++ [x] := e
      obtain ⟨_, e4⟩ := List.append_inj' e2 rfl
      have e5 : d = x := (List.cons.inj e4).1
      subst e5
      exact .inr ⟨[], a, b, c, rfl, t⟩
    · have e2 : (a :: b :: c :: d :: post') ++ [y] = m ++ [x] := by rw [← e]; simp
      obtain ⟨e3, e4⟩ := List.append_inj' e2 rfl
      have e5 : y = x := (List.cons.inj e4).1
      subst e5 e3
      exact .inl ⟨a :: d :: post', .here t, by simp⟩
  | @there y p q cy h ih =>
    intro m x e
    cases m with
    | nil =>
      have e2 : p = [] := (List.cons.inj e).2
      subst e2
      cases h
    | cons y' m' =>
      obtain ⟨e1, e2⟩ := List.cons.inj e
      subst e1
      rcases ih e2 with ⟨q', s, e3⟩ | ⟨pre, a, b, c, e3, t⟩
      · exact .inl ⟨y :: q', .there s, by rw [e3]; rfl⟩
      · exact .inr ⟨y :: pre, a, b, c, by rw [e3]; rfl, t⟩
theorem nf_push {m : List Int} {x : Int} (h : NF m) (n : ∀ pre a b c, m ++ [x] = pre ++ [a, b, c, x] → ¬ Taken a b c x) : NF (m ++ [x]) := by
  intro cy q s
  rcases step_last s rfl with ⟨q', s', _⟩ | ⟨pre, a, b, c, e, t⟩
  · exact h _ _ s'
  · exact n pre a b c e t
theorem nf_prefix {m l : List Int} (h : NF (m ++ l)) : NF m := fun cy q s => h _ _ (s.suffix l)
/-- turning points go up and down -/
theorem tq_zz : ∀ (l : List Int) (b a : Int), a ≠ b → ∃ x s, tq b a l = x :: s ∧ (x > b ↔ a > b) ∧ x ≠ b ∧ ZZ (b :: x :: s)
  | [], b, a, h => ⟨a, [], rfl, Iff.rfl, h, fun z => h z.symm⟩
  | r :: l, b, a, h => by
    simp only [tq]
    by_cases e : a = r
    · rw [if_pos e]
      exact tq_zz l b a h
    · rw [if_neg e]
      by_cases bt : Btw a b r
      · rw [if_pos bt]
        obtain ⟨x, s, h1, h2, h3, h4⟩ := tq_zz l b r (by omega)
        exact ⟨x, s, h1, by omega, h3, h4⟩
      · rw [if_neg bt]
        obtain ⟨y, s, h1, h2, h3, h4⟩ := tq_zz l a r (fun z => e z.symm)
        refine ⟨a, y :: s, by rw [h1], Iff.rfl, h, ?_, h4⟩
        have h5 : y > a ↔ r > a := h2
        omega
theorem ts_zz : ∀ (l : List Int) (a : Int), ZZ (ts a l)
  | [], _ => trivial
  | r :: l, a => by
    simp only [ts]
    by_cases e : a = r
    · rw [if_pos e]
      exact ts_zz l a
    · rw [if_neg e]
      obtain ⟨x, s, h1, _, _, h4⟩ := tq_zz l a r (fun z => e z.symm)
      rw [h1]
      exact h4
theorem tp_zz (ns : List Int) : ZZ (tp ns) := by
  cases ns with
  | nil => exact trivial
  | cons a l => exact ts_zz l a
end RM

/-! heaps; the texts of data; a walk over two tuples -/
namespace KA
open PySem PySem.Spec PyProof.Rows L2
theorem same_new {H : Hp} {p : Addr} {o : HO} (h : H p = none) : Same H (upd H p o) := fun b x e => by
  rw [upd_ne (ne_of_none e h)]
  exact e
theorem same_again {H0 H : Hp} {p : Addr} {o : HO} (h : H0 p = none) (s : Same H0 H) : Same H0 (upd H p o) := fun b x e => by
  rw [upd_ne (ne_of_none e h)]
  exact s b x e
theorem SqT_same {K : PySem.W.Frag} {H H' : Hp} {a : Addr} {xs : List V} (e : Same H H') (h : SqT K H a xs) : SqT K H' a xs := by
  rcases h with (h | ⟨o, h⟩) | h
  · exact .inl (.inl (e _ _ h))
  · exact .inl (.inr ⟨o, e _ _ h⟩)
  · exact .inr h
theorem int_at {ns : List Int} {i : Nat} {x : V} (h : (ns.map V.int)[i]? = some x) : ∃ r, ns[i]? = some r ∧ x = .int r := by
  rw [List.getElem?_map] at h
  cases e : ns[i]? with
  | none => rw [e] at h; cases h
  | some r => rw [e] at h; exact ⟨r, rfl, (Option.some.inj h).symm⟩
theorem small3000 {n : Nat} (h : n ≤ 3000) : n < sizeLine := Nat.lt_of_le_of_lt h (by decide)
theorem at_int {ns : List Int} {i : Nat} {r : Int} (h : ns[i]? = some r) : (ns.map V.int)[i]? = some (.int r) := by
  rw [List.getElem?_map, h]
  rfl
end KA
namespace KB
end KB
namespace PH
open PySem PySem.Spec PyProof.Rows L2 KA
/-- a list or a tuple of xs stands at a -/
def Sq (K : PySem.W.Frag) (H : Hp) (a : Addr) (xs : List V) : Prop := SqL K H a xs ∨ SqT K H a xs
theorem Sq.same {K : PySem.W.Frag} {H H' : Hp} {a : Addr} {xs : List V} (h : Sq K H a xs) (e : Same H H') : Sq K H' a xs := h.elim (fun z => .inl (e.seq z)) (fun z => .inr (SqT_same e z))
/-- pairs of ints stand at the refs of xs -/
def PairsAt (H : Hp) : List V → List (Int × Int) → Prop
  | [], [] => True
  | x :: xs, r :: rs => (∃ p, x = .ref p ∧ H p = some (.tup [.int r.1, .int r.2])) ∧ PairsAt H xs rs
  | _, _ => False
theorem PairsAt.same {H H' : Hp} (e : Same H H') : ∀ {xs : List V} {rs : List (Int × Int)}, PairsAt H xs rs → PairsAt H' xs rs
  | [], [], _ => trivial
  | x :: xs, r :: rs, ⟨⟨p, h1, h2⟩, h3⟩ => ⟨⟨p, h1, e _ _ h2⟩, PairsAt.same e h3⟩
  | [], _ :: _, h => h.elim
  | _ :: _, [], h => h.elim
theorem PairsAt.length {H : Hp} : ∀ {xs : List V} {rs : List (Int × Int)}, PairsAt H xs rs → xs.length = rs.length
  | [], [], _ => rfl
  | x :: xs, r :: rs, ⟨_, h3⟩ => by rw [List.length_cons, List.length_cons, PairsAt.length h3]
  | [], _ :: _, h => h.elim
  | _ :: _, [], h => h.elim
theorem PairsAt.append {H : Hp} : ∀ {xs ys : List V} {rs ss : List (Int × Int)}, PairsAt H xs rs → PairsAt H ys ss → PairsAt H (xs ++ ys) (rs ++ ss)
  | [], _, [], _, _, h => h
  | x :: xs, _, r :: rs, _, ⟨h1, h2⟩, h => ⟨h1, PairsAt.append h2 h⟩
  | [], _, _ :: _, _, h, _ => h.elim
  | _ :: _, _, [], _, h, _ => h.elim
theorem PairsAt.take {H : Hp} : ∀ {xs : List V} {rs : List (Int × Int)} (n : Nat), PairsAt H xs rs → PairsAt H (xs.take n) (rs.take n)
  | [], [], n, _ => by simp [PairsAt]
  | x :: xs, r :: rs, 0, _ => trivial
  | x :: xs, r :: rs, n + 1, ⟨h1, h2⟩ => ⟨h1, PairsAt.take n h2⟩
  | [], _ :: _, _, h => h.elim
  | _ :: _, [], _, h => h.elim
theorem PairsAt.get {H : Hp} : ∀ {xs : List V} {rs : List (Int × Int)} {i : Nat} {x : V}, PairsAt H xs rs → xs[i]? = some x → ∃ p a b, x = .ref p ∧ H p = some (.tup [.int a, .int b])
  | x :: xs, r :: rs, 0, y, ⟨⟨p, h1, h2⟩, _⟩, e => ⟨p, r.1, r.2, by rw [← h1]; exact (Option.some.inj e).symm, h2⟩
  | x :: xs, r :: rs, i + 1, y, ⟨_, h⟩, e => PairsAt.get h e
  | [], [], i, y, _, e => by simp at e
  | [], _ :: _, _, _, h, _ => h.elim
  | _ :: _, [], _, _, h, _ => h.elim
/-! ### data -/
def dInts (ns : List Int) : List PyData := ns.map PyData.int
def dPairs (rs : List (Int × Int)) : List PyData := rs.map fun r => .tuple [.int r.1, .int r.2]
theorem dp_ints {K : PySem.W.Frag} {H : Hp} : ∀ ns : List Int, DpAll K H (ns.map V.int) (dInts ns)
  | [] => .nil
  | n :: ns => .cons (.int n) (dp_ints ns)
theorem dp_pairs {K : PySem.W.Frag} {H : Hp} : ∀ {xs : List V} {rs : List (Int × Int)}, PairsAt H xs rs → DpAll K H xs (dPairs rs)
  | [], [], _ => .nil
  | x :: xs, r :: rs, ⟨⟨p, h1, h2⟩, h3⟩ => by
    subst h1
    exact .cons (.tup (SqT.of h2) (.cons (.int _) (.cons (.int _) .nil))) (dp_pairs h3)
  | [], _ :: _, h => h.elim
  | _ :: _, [], h => h.elim
theorem lay_ints : ∀ ns : List Int, PyData.canLayAll0 (dInts ns) = true
  | [] => rfl
  | n :: ns => by
    show (PyData.canLay0 (.int n) && PyData.canLayAll0 (dInts ns)) = true
    rw [lay_ints ns]
    simp only [PyData.canLay0, Bool.and_true]
theorem lay_pairs : ∀ rs : List (Int × Int), PyData.canLayAll0 (dPairs rs) = true
  | [] => rfl
  | r :: rs => by
    show (PyData.canLay0 (.tuple [.int r.1, .int r.2]) && PyData.canLayAll0 (dPairs rs)) = true
    rw [lay_pairs rs]
    simp only [PyData.canLay0, PyData.canLayAll0, Bool.and_true]
theorem depth_pairs : ∀ rs : List (Int × Int), PyData.depthAll (dPairs rs) ≤ 3
  | [] => Nat.zero_le _
  | r :: rs => by
    have h := depth_pairs rs
    show max (PyData.depth (.tuple [.int r.1, .int r.2])) (PyData.depthAll (dPairs rs)) ≤ 3
    simp only [PyData.depth, PyData.depthAll]
    omega
theorem shaped_of {d : PyData} (h1 : d.canLay0 = true) (h2 : d.depth ≤ 64) : SeqAt.shaped d = true := by
  unfold SeqAt.shaped
  rw [h1, decide_eq_true h2]
  rfl
theorem shaped_lst (ns : List Int) : SeqAt.shaped (.list (dInts ns)) = true :=
  shaped_of (by simp only [PyData.canLay0, lay_ints]) (by have := KG.depth_all ns; show PyData.depth (.list (ns.map PyData.int)) ≤ 64; simp only [PyData.depth]; omega)
theorem shaped_tup (ns : List Int) : SeqAt.shaped (.tuple (dInts ns)) = true :=
  shaped_of (by simp only [PyData.canLay0, lay_ints]) (by have := KG.depth_all ns; show PyData.depth (.tuple (ns.map PyData.int)) ≤ 64; simp only [PyData.depth]; omega)
theorem shaped_prs (rs : List (Int × Int)) : SeqAt.shaped (.list (dPairs rs)) = true :=
  shaped_of (by simp only [PyData.canLay0, lay_pairs]) (by have := depth_pairs rs; simp only [PyData.depth]; omega)
theorem eqv_same {d : PyData} (h : SeqAt.shaped d = true) : PyData.eqv d d = true := by
  refine SeqAt.eqv_refl d ?_
  unfold SeqAt.shaped at h
  rw [Bool.and_eq_true] at h
  exact h.1
/-- what repr asks of data -/
structure Nice (d : PyData) : Prop where
  show' : d.showable = true
  dict : d.hasDict = false
  depth : d.depth ≤ 10
  fits : d.shown.length ≤ sizeLine
theorem nice_lst {ns : List Int} (h : ∀ n ∈ ns, n.natAbs < 2 ^ 39) (hl : ns.length ≤ 2000) : Nice (.list (dInts ns)) :=
  ⟨by simp only [PyData.showable]; exact KG.show_all ns fun m hm => Nat.lt_trans (h m hm) (by decide), by simp only [PyData.hasDict]; exact KG.nodict_all ns,
    by have := KG.depth_all ns; show PyData.depth (.list (ns.map PyData.int)) ≤ 10; simp only [PyData.depth]; omega, KG.repr_fits h hl⟩
theorem nice_tup {ns : List Int} (h : ∀ n ∈ ns, n.natAbs < 2 ^ 39) (hl : ns.length ≤ 2000) : Nice (.tuple (dInts ns)) :=
  ⟨by simp only [PyData.showable]; exact KG.show_all ns fun m hm => Nat.lt_trans (h m hm) (by decide), by simp only [PyData.hasDict]; exact KG.nodict_all ns,
    by have := KG.depth_all ns; show PyData.depth (.tuple (ns.map PyData.int)) ≤ 10; simp only [PyData.depth]; omega, by
      refine PyData.shown_fits (B := 13) (by decide) (by decide) ?_ ?_
      · simp only [PyData.leavesShort]
        exact KG.leaves_all ns fun n hn => Nat.lt_trans (h n hn) (by decide)
      · have := KG.weight_all ns h
        show PyData.weight (.tuple (ns.map PyData.int)) ≤ _
        simp only [PyData.weight]
        omega⟩
theorem leaf_int {a : Int} (h : a.natAbs < 2 ^ 39) : PyData.leavesShort 13 (.int a) = true := by
  have := KG.leaves_all [a] fun n hn => by rw [List.mem_singleton.mp hn]; exact Nat.lt_trans h (by decide)
  simpa only [List.map_cons, List.map_nil, PyData.leavesShortAll, Bool.and_true] using this
theorem show_int {a : Int} (h : a.natAbs < 2 ^ 39) : PyData.showable (.int a) = true := by
  have := KG.show_all [a] fun n hn => by rw [List.mem_singleton.mp hn]; exact Nat.lt_trans h (by decide)
  simpa only [List.map_cons, List.map_nil, PyData.showableAll, Bool.and_true] using this
theorem weight_int {a : Int} (h : a.natAbs < 2 ^ 39) : PyData.weight (.int a) + 1 ≤ 60 := by
  have := KG.weight_all [a] fun n hn => by rw [List.mem_singleton.mp hn]; exact h
  simp only [List.map_cons, List.map_nil, PyData.weightAll, List.length_singleton] at this
  omega
theorem pairs_show : ∀ rs : List (Int × Int), (∀ r ∈ rs, r.1.natAbs < 2 ^ 39 ∧ r.2.natAbs < 2 ^ 39) → PyData.showableAll (dPairs rs) = true
  | [], _ => rfl
  | r :: rs, h => by
    have h1 := h r List.mem_cons_self
    show (PyData.showable (.tuple [.int r.1, .int r.2]) && PyData.showableAll (dPairs rs)) = true
    rw [pairs_show rs fun x hx => h x (List.mem_cons_of_mem _ hx)]
    have e1 := show_int h1.1
    have e2 := show_int h1.2
    simp only [PyData.showable, PyData.showableAll] at e1 e2 ⊢
    rw [e1, e2]
    rfl
theorem pairs_dict : ∀ rs : List (Int × Int), PyData.hasDictAll (dPairs rs) = false
  | [] => rfl
  | r :: rs => by
    show (PyData.hasDict (.tuple [.int r.1, .int r.2]) || PyData.hasDictAll (dPairs rs)) = false
    rw [pairs_dict rs]
    simp only [PyData.hasDict, PyData.hasDictAll, Bool.or_self]
theorem pairs_leaves : ∀ rs : List (Int × Int), (∀ r ∈ rs, r.1.natAbs < 2 ^ 39 ∧ r.2.natAbs < 2 ^ 39) → PyData.leavesShortAll 13 (dPairs rs) = true
  | [], _ => rfl
  | r :: rs, h => by
    have h1 := h r List.mem_cons_self
    show (PyData.leavesShort 13 (.tuple [.int r.1, .int r.2]) && PyData.leavesShortAll 13 (dPairs rs)) = true
    rw [pairs_leaves rs fun x hx => h x (List.mem_cons_of_mem _ hx)]
    have e : PyData.leavesShort 13 (.tuple [.int r.1, .int r.2]) = PyData.leavesShortAll 13 [.int r.1, .int r.2] := by simp only [PyData.leavesShort]
    have e' : PyData.leavesShortAll 13 [.int r.1, .int r.2] = (PyData.leavesShort 13 (.int r.1) && (PyData.leavesShort 13 (.int r.2) && true)) := by simp only [PyData.leavesShortAll]
    rw [e, e', leaf_int h1.1, leaf_int h1.2]
    rfl
theorem pairs_weight : ∀ rs : List (Int × Int), (∀ r ∈ rs, r.1.natAbs < 2 ^ 39 ∧ r.2.natAbs < 2 ^ 39) → PyData.weightAll (dPairs rs) ≤ 130 * rs.length
  | [], _ => Nat.le_refl _
  | r :: rs, h => by
    have h1 := h r List.mem_cons_self
    have h2 := pairs_weight rs fun x hx => h x (List.mem_cons_of_mem _ hx)
    have w1 := weight_int h1.1
    have w2 := weight_int h1.2
    have e : PyData.weightAll (dPairs (r :: rs)) = PyData.weight (.tuple [.int r.1, .int r.2]) + 1 + PyData.weightAll (dPairs rs) := by
      show PyData.weightAll (_ :: _) = _
      simp only [PyData.weightAll]
      rfl
    have e2 : PyData.weight (.tuple [.int r.1, .int r.2]) = PyData.weight (.int r.1) + 1 + (PyData.weight (.int r.2) + 1 + 0) := by simp only [PyData.weight, PyData.weightAll]
    rw [e, e2, List.length_cons]
    omega
theorem nice_prs {rs : List (Int × Int)} (h : ∀ r ∈ rs, r.1.natAbs < 2 ^ 39 ∧ r.2.natAbs < 2 ^ 39) (hl : rs.length ≤ 2000) : Nice (.list (dPairs rs)) :=
  ⟨by simp only [PyData.showable]; exact pairs_show rs h, by simp only [PyData.hasDict]; exact pairs_dict rs, by have := depth_pairs rs; simp only [PyData.depth]; omega, by
    refine PyData.shown_fits (B := 13) (by decide) (by decide) ?_ ?_
    · simp only [PyData.leavesShort]
      exact pairs_leaves rs h
    · have := pairs_weight rs h
      simp only [PyData.weight]
      omega⟩
section
variable {X : Cx}
/-- repr of data at an address, while no repr is under way -/
def rReprD (K : PySem.W.Frag) : List V → Hp → VK → Prop := fun vs H Q => ∃ (a : Addr) (d : PyData), vs = [V.ref a] ∧ Dp K H (.ref a) d ∧ Nice d ∧ Q (.str d.shown) H
theorem cr_reprD (hg : X.A.guards = some []) (hu : X.A.units + 100 < cLine) : CallR X (.builtin "repr") (rReprD X.K) := by
  intro pins s σ H vs us Q I r h
  obtain ⟨a, d, rfl, hd, nc, q⟩ := h
  rw [Vals.ref1 r]
  obtain ⟨as, rd⟩ := Dp.reads I d (.ref a) (.ref a) hd rfl
  refine repr_of_reads' rd nc.show' (PyData.noDict_hsm nc.dict) hg (by have := nc.depth; omega) (fun _ _ e => e) (fun g u tk k => ?_) nc.fits
  exact ⟨.str d.shown, H, I.kept k, ⟨u, rfl⟩, q⟩
theorem cr_reprB : CallR X (.builtin "repr") (fun vs H Q => ∃ b : Bool, vs = [V.bl b] ∧ Q (.str (if b = true then "True" else "False")) H) := by
  intro pins s σ H vs us Q I r h
  obtain ⟨b, rfl, q⟩ := h
  obtain ⟨u, rfl, ru⟩ := vals1 r
  cases ru
  exact PySem.P.repr_of_bool ⟨.str _, H, I.tok _, ⟨_, rfl⟩, q⟩
end
section
variable {K : PySem.W.Frag} {a b : Addr} {xs ys : List V}
theorem walk_tups {n : Nat} (hn : n = min xs.length ys.length) : Walk (RZ.ItzT K a b) n (fun H => SqT K H a xs ∧ SqT K H b ys) (YPair (fun i => xs[i]?) (fun i => ys[i]?)) := by
  refine ⟨fun i H hi q => ⟨xs, ys, xs[i]'(by omega), ys[i]'(by omega), q.1, q.2, List.getElem?_eq_getElem (by omega), List.getElem?_eq_getElem (by omega)⟩, fun H q => ⟨xs, ys, q.1, q.2, by omega⟩, fun i H v H' _ q y => ?_⟩
  obtain ⟨T, x, z, h1, h2, h3, h4, h5⟩ := y
  exact ⟨T, x, z, h1, h2, h3, h4 xs q.1, h5 ys q.2⟩
end
/-- two promises of one def -/
theorem both {P : Program} {w : World} {K : PySem.W.Frag} {mg : Str → Option Value} {base : Heap} {CX : CXT} {k : Nat} {f : Addr} {fd : FuncData} {ps : List Str} {sp sp' : Sp}
    (F : FnOk P w K mg base CX k f fd ps sp) (G : FnOk P w K mg base CX k f fd ps sp') : FnOk P w K mg base CX k f fd ps (fun vs H Q E => sp vs H Q E ∨ sp' vs H Q E) :=
  ⟨fun vs H Q E h => h.elim (F.len vs H Q E) (G.len vs H Q E), fun A outer s H args us vs Q E hr e0 hb r h => h.elim (F.run A outer s H args us vs Q E hr e0 hb r) (G.run A outer s H args us vs Q E hr e0 hb r)⟩
end PH

namespace KA
open PySem PySem.Spec PyProof.Rows L2
def topS (i : Nat) : Stmt := PySem.Challenge.pw_wearswings_k31_loads_with_a_count.main.body.getD i (.Pass ⟨0, 0, 0, 0⟩)
end KA
namespace KD
open PySem PySem.Spec PyProof.Rows L2 KA
abbrev sFeed : Stmt := topS 33
abbrev sTake : Stmt := topS 34
abbrev sPick : Stmt := topS 35
theorem scFeed : FnScope ["script", "index", "cell", "great"] ["script", "index"] (defScope sFeed) := ⟨rfl, rfl, rfl, by decide +kernel, rfl, by decide +kernel, by decide +kernel⟩
theorem scTake : FnScope ["feed", "size", "digit"] ["feed", "size"] (defScope sTake) := ⟨rfl, rfl, rfl, by decide +kernel, rfl, by decide +kernel, by decide +kernel⟩
theorem scPick : FnScope ["feed", "options"] ["feed", "options"] (defScope sPick) := ⟨rfl, rfl, rfl, by decide +kernel, rfl, by decide +kernel, by decide +kernel⟩
/-- a feed stands at p -/
def FeedAt (H : Hp) (p : Addr) : Prop := ∃ d st : Int, 0 ≤ d ∧ 0 ≤ st ∧ st < 2305843009213693951 ∧ H p = some (.lst [.int d, .int st])
/-- all that was tracked is as it was, but what stands at f -/
def Ch (f : Addr) (H H' : Hp) : Prop := ∀ b o, b ≠ f → H b = some o → H' b = some o
theorem Ch.refl (f : Addr) (H : Hp) : Ch f H H := fun _ _ _ e => e
theorem Ch.trans {f : Addr} {H H1 H2 : Hp} (a : Ch f H H1) (b : Ch f H1 H2) : Ch f H H2 := fun c o n e => b c o n (a c o n e)
theorem Ch.of_same {f : Addr} {H H' : Hp} (s : Same H H') : Ch f H H' := fun c o _ e => s c o e
theorem Ch.put {f : Addr} {H : Hp} {o : HO} : Ch f H (upd H f o) := fun b x n e => by rw [upd_ne n]; exact e
theorem Ch.new {f p : Addr} {H : Hp} {o : HO} (h : H p = none) : Ch f H (upd H p o) := .of_same (same_new h)
theorem Ch.again {f p : Addr} {H0 H : Hp} {o : HO} (h : H0 p = none) (c : Ch f H0 H) : Ch f H0 (upd H p o) := fun b x n e => by
  rw [upd_ne (ne_of_none e h)]
  exact c b x n e
theorem Ch.free {f p : Addr} {H H' : Hp} (c : Ch f H H') (n : p ≠ f) (h : H' p = none) : H p = none := by
  cases e : H p with
  | none => rfl
  | some o =>
    rw [c p o n e] at h
    cases h
theorem Ch.seq {K : PySem.W.Frag} {f : Addr} {H H' : Hp} {a : Addr} {xs : List V} (c : Ch f H H') (n : a ≠ f) (h : SqL K H a xs) : SqL K H' a xs := by
  rcases h with (h | ⟨o, h⟩) | h
  · exact .inl (.inl (c _ _ n h))
  · exact .inl (.inr ⟨o, c _ _ n h⟩)
  · exact .inr h
/-- what stood ahead of the feed is as it was -/
theorem Ch.old {f : Addr} {H0 H H' : Hp} (c : Ch f H H') (hf : H0 f = none) (s : Same H0 H) : Same H0 H' := fun b o e => c b o (ne_of_none e hf) (s b o e)
theorem FeedAt.ne {H : Hp} {f p : Addr} (h : FeedAt H f) (n : H p = none) : p ≠ f := by
  obtain ⟨d, st, _, _, _, e⟩ := h
  exact fun z => by rw [z, e] at n; cases n
theorem FeedAt.upd {H : Hp} {f p : Addr} {o : HO} (h : FeedAt H f) (n : p ≠ f) : FeedAt (upd H p o) f := by
  obtain ⟨d, st, h1, h2, h3, e⟩ := h
  exact ⟨d, st, h1, h2, h3, by rw [upd_ne n.symm]; exact e⟩
theorem FeedAt.same {H H' : Hp} {f : Addr} (h : FeedAt H f) (s : Same H H') : FeedAt H' f := by
  obtain ⟨d, st, h1, h2, h3, e⟩ := h
  exact ⟨d, st, h1, h2, h3, s _ _ e⟩
section
variable {P : Program} {w : World} {K : PySem.W.Frag} {mg : Str → Option Value} {base : Heap}
def spFeed (K : PySem.W.Frag) : Sp := fun vs H Q _ => ∃ (a : Addr) (ns : List Int) (k : Int), vs = [.ref a, .int k] ∧ SqL K H a (ns.map V.int) ∧ 0 ≤ k ∧ k ≤ 100 ∧
  ∀ H' p, Same H H' → H p = none → FeedAt H' p → Q (.ref p) H'
theorem ok_feed {f : Addr} {fd : FuncData} {k : Nat} (F : Fun K "_law_feed" "_law_feed" sFeed f fd) (ml : mg "len" = none) (mm : mg "max" = none) (ma : mg "abs" = none) : FnOk P w K mg base CX0 (k + 1) f fd ["script", "index"] (spFeed K) := by
  refine F.ok scFeed (fun vs H Q E h => ?_) (fun cdv A outer s H vs Q E hr h => ?_)
  · obtain ⟨a, ns, z, rfl, _⟩ := h
    rfl
  · obtain ⟨a, ns, z, rfl, hS, h0, h1, q⟩ := h
    refine ⟨_, pss_cons (ps_set (i := 2) scFeed.nd rfl (.inl rfl) (pe_ifExp (pt_cmpR op_lt (pv 1) (pe_callB call_len_seq (by rfl) ml PySem.boot_len (pa_cons (pv 0) pa_nil)) (nomark _)) (pe_ix ix_list (pv 0) (pv 1) (fun _ _ => rfl)) (pe_op op_add (pe_op op_mul pe_int (pv 1)) pe_int)))
      (pss_cons (ps_set (i := 3) scFeed.nd rfl (.inl rfl) (pe_op op_sub (pe_callB call_abs (by rfl) ma (by decide +kernel) (pa_cons (pv 2) pa_nil)) (pe_op op_pow pe_int pe_int)))
      (pss_one (ps_ret (pe_lst (pa_cons (pe_callB (call_max2 rfl) (by rfl) mm (by decide +kernel) (pa_cons pe_int (pa_cons (pv 3) pa_nil))) (pa_cons (pe_op op_mod (pe_op op_add (pe_op op_mul (pv 2) pe_int) (pe_op op_mul pe_int (pe_op op_add (pv 1) pe_int))) pe_int) pa_nil)))))), ?_⟩
    refine ⟨.int z, rfl, .ref a, rfl, a, ns.map V.int, rfl, .inl hS, z, _, rfl, rfl, _, rfl, ite2 (fun e => ?_) (fun e => ?_)⟩
    · have hz : z < ((ns.map V.int).length : Nat) := of_decide_eq_true e
      rw [List.length_map] at hz
      obtain ⟨j, rfl⟩ : ∃ j : Nat, z = (j : Int) := ⟨z.toNat, by omega⟩
      have hj : j < ns.length := by omega
      have gj : (ns.map V.int)[j]? = some (.int ns[j]) := by rw [List.getElem?_map, List.getElem?_eq_getElem hj]; rfl
      refine ⟨.ref a, rfl, .int j, rfl, a, _, _, _, rfl, rfl, hS, atI_nat gj, ?_⟩
      refine ⟨.int _, rfl, _, rfl, 10, 18, rfl, rfl, ⟨by decide, by decide, by decide⟩, _, _, rfl, rfl, .int _, rfl, 0, _, rfl, ?_⟩
      refine ⟨.int _, rfl, _, _, rfl, rfl, .inr ⟨by decide, by decide⟩, .int _, rfl, _, 1, rfl, rfl, 3935559000370003845, _, rfl, rfl, .inl ⟨by decide, by decide⟩, _, _, rfl, rfl, _, _, rfl, rfl, by show (0 : Int) < 2305843009213693951; decide, ?_⟩
      refine ⟨by show 2 ≤ sizeLine; decide, fun p np => q _ p (same_new np) np ⟨_, _, ?_, Int.emod_nonneg _ (by decide), Int.emod_lt_of_pos _ (by decide), upd_same⟩⟩
      split <;> omega
    · refine ⟨.int z, rfl, 59, z, rfl, rfl, .inl ⟨by decide, by decide⟩, _, _, rfl, rfl, ?_⟩
      refine ⟨.int _, rfl, _, rfl, 10, 18, rfl, rfl, ⟨by decide, by decide, by decide⟩, _, _, rfl, rfl, .int _, rfl, 0, _, rfl, ?_⟩
      refine ⟨.int _, rfl, _, _, rfl, rfl, .inr ⟨by decide, by decide⟩, .int _, rfl, _, 1, rfl, rfl, 3935559000370003845, _, rfl, rfl, .inl ⟨by decide, by decide⟩, _, _, rfl, rfl, _, _, rfl, rfl, by show (0 : Int) < 2305843009213693951; decide, ?_⟩
      refine ⟨by show 2 ≤ sizeLine; decide, fun p np => q _ p (same_new np) np ⟨_, _, ?_, Int.emod_nonneg _ (by decide), Int.emod_lt_of_pos _ (by decide), upd_same⟩⟩
      split <;> omega
def spTake : Sp := fun vs H Q _ => ∃ (f : Addr) (m : Int), vs = [.ref f, .int m] ∧ 0 < m ∧ m < 2 ^ 64 ∧ FeedAt H f ∧ ∀ H' r, Ch f H H' → FeedAt H' f → 0 ≤ r → r < m → Q (.int r) H'
theorem ok_take {f : Addr} {fd : FuncData} {k : Nat} (F : Fun K "_law_take" "_law_take" sTake f fd) : FnOk P w K mg base CX0 (k + 1) f fd ["feed", "size"] spTake := by
  refine F.ok scTake (fun vs H Q E h => ?_) (fun cdv A outer s H vs Q E hr h => ?_)
  · obtain ⟨a, m, rfl, _⟩ := h
    rfl
  · obtain ⟨f, m, rfl, m0, m1, ⟨d, st, d0, t0, t1, hf⟩, q⟩ := h
    refine ⟨_, pss_cons (ps_if (pt_cmpR op_gt (pe_ix ix_list (pv 0) pe_int (fun _ _ => rfl)) pe_int (nomark _))
        (pss_cons (ps_set (i := 2) scTake.nd rfl (.inl rfl) (pe_op op_mod (pe_ix ix_list (pv 0) pe_int (fun _ _ => rfl)) (pv 1)))
          (pss_cons (ps_asg (pe_op op_fdivW (pe_ix ix_list (pv 0) pe_int (fun _ _ => rfl)) (pv 1)) (pg_sub (pv 0) pe_int set_list)) (pss_one (ps_ret (pv 2))))) pss_nil)
      (pss_cons (ps_asg (pe_op op_mod (pe_op op_add (pe_op op_mul (pe_ix ix_list (pv 0) pe_int (fun _ _ => rfl)) pe_int) pe_int) pe_int) (pg_sub (pv 0) pe_int set_list))
      (pss_one (ps_ret (pe_op op_mod (pe_op op_fdiv (pe_ix ix_list (pv 0) pe_int (fun _ _ => rfl)) pe_int) (pv 1))))), ?_⟩
    have a0 : atI [V.int d, V.int st] 0 = some (.int d) := rfl
    have a1 : atI [V.int d, V.int st] 1 = some (.int st) := rfl
    refine ⟨.ref f, rfl, f, _, 0, .int d, rfl, rfl, SqL.of hf, a0, d, 0, rfl, rfl, _, rfl, ite2 (fun e => ?_) (fun e => ?_)⟩
    · have hd : d > 0 := of_decide_eq_true e
      refine ⟨.ref f, rfl, f, _, 0, .int d, rfl, rfl, SqL.of hf, a0, .int m, rfl, d, m, rfl, rfl, m0, ?_⟩
      refine ⟨.ref f, rfl, f, _, 0, .int d, rfl, rfl, SqL.of hf, a0, .int m, rfl, d, m, rfl, rfl, wide_div (b := 64) m0 (by omega) (by decide) (by decide), ?_⟩
      refine ⟨.ref f, rfl, f, _, 0, 0, rfl, rfl, hf, rfl, .int (d % m), rfl, ?_⟩
      refine q _ _ Ch.put ⟨d / m, st, Int.ediv_nonneg d0 (by omega), t0, t1, upd_same⟩ (Int.emod_nonneg _ (by omega)) (Int.emod_lt_of_pos _ m0)
    · refine ⟨.ref f, rfl, f, _, 1, .int st, rfl, rfl, SqL.of hf, a1, st, 742938285, rfl, rfl, .inr ⟨by decide, by decide⟩, _, _, rfl, rfl, _, _, rfl, rfl, by show (0 : Int) < 2305843009213693951; decide, ?_⟩
      refine ⟨.ref f, rfl, f, _, 1, 1, rfl, rfl, hf, rfl, ?_⟩
      refine ⟨.ref f, rfl, f, _, 1, _, rfl, rfl, SqL.of upd_same, rfl, _, 16777216, rfl, rfl, ⟨by decide, by decide⟩, .int m, rfl, _, m, rfl, rfl, m0, ?_⟩
      exact q _ _ Ch.put ⟨d, _, d0, Int.emod_nonneg _ (by decide), Int.emod_lt_of_pos _ (by decide), upd_same⟩ (Int.emod_nonneg _ (by omega)) (Int.emod_lt_of_pos _ m0)
def spPick (K : PySem.W.Frag) : Sp := fun vs H Q _ => ∃ (f c : Addr) (xs : List V), vs = [.ref f, .ref c] ∧ c ≠ f ∧ SqL K H c xs ∧ 0 < xs.length ∧ xs.length ≤ 1000 ∧ FeedAt H f ∧
  ∀ H' (j : Nat) v, xs[j]? = some v → Ch f H H' → FeedAt H' f → Q v H'
theorem ok_pick {f fT : Addr} {fd fdT : FuncData} {k : Nat} (F : Fun K "_law_pick" "_law_pick" sPick f fd) (FT : Fun K "_law_take" "_law_take" sTake fT fdT) (gT : mg "_law_take" = some (.ref fT)) (bT : Binds K fdT ["feed", "size"] []) (ml : mg "len" = none) :
    FnOk P w K mg base CX0 (k + 2) f fd ["feed", "options"] (spPick K) := by
  have GT : FnOk P w K mg base CX0 (k + 1) fT fdT ["feed", "size"] spTake := ok_take FT
  refine F.ok scPick (fun vs H Q E h => ?_) (fun cdv A outer s H vs Q E hr h => ?_)
  · obtain ⟨a, m, xs, rfl, _⟩ := h
    rfl
  · obtain ⟨f, c, xs, rfl, ncf, hS, l0, l1, hf, q⟩ := h
    refine ⟨_, pss_one (ps_ret (pe_ix ix_list (pv 1) (pe_call GT hr (by rfl) gT FT.kp bT .nil pass0 (pa_cons (pv 0) (pa_cons (pe_callB call_len_seq (by rfl) ml PySem.boot_len (pa_cons (pv 1) pa_nil)) pa_nil))) (fun _ _ => rfl))), ?_⟩
    refine ⟨.ref c, rfl, .ref f, rfl, .ref c, rfl, c, xs, rfl, .inl hS, f, _, rfl, by omega, by omega, hf, fun H' r ch fe r0 r1 => ?_⟩
    obtain ⟨j, rfl⟩ : ∃ j : Nat, r = (j : Int) := ⟨r.toNat, by omega⟩
    have hj : j < xs.length := by omega
    exact ⟨c, xs, _, xs[j], rfl, rfl, ch.seq ncf hS, atI_nat (List.getElem?_eq_getElem hj), q H' j _ (List.getElem?_eq_getElem hj) ch fe⟩
end
end KD

/-! the program's turning points and swings -/
namespace PA
open PySem PySem.Spec PyProof.Rows L2 KA PH PM
abbrev sCont : Stmt := topS 10
abbrev sRng : Stmt := topS 11
abbrev sTP : Stmt := topS 12
abbrev sBtw : Stmt := topS 14
abbrev sLO : Stmt := topS 13
abbrev sSw : Stmt := topS 15
theorem scCont : FnScope ["outer", "inner"] ["outer", "inner"] (defScope sCont) := ⟨rfl, rfl, rfl, by decide +kernel, rfl, by decide +kernel, by decide +kernel⟩
theorem scRng : FnScope ["one", "other"] ["one", "other"] (defScope sRng) := ⟨rfl, rfl, rfl, by decide +kernel, rfl, by decide +kernel, by decide +kernel⟩
theorem scTP : FnScope ["load", "points", "reading"] ["load"] (defScope sTP) := ⟨rfl, rfl, rfl, by decide +kernel, rfl, by decide +kernel, by decide +kernel⟩
theorem scLO : FnScope ["points", "reading", "last"] ["points", "reading"] (defScope sLO) := ⟨rfl, rfl, rfl, by decide +kernel, rfl, by decide +kernel, by decide +kernel⟩
theorem scBtw : FnScope ["reading", "before", "after"] ["reading", "before", "after"] (defScope sBtw) := ⟨rfl, rfl, rfl, by decide +kernel, rfl, by decide +kernel, by decide +kernel⟩
theorem scSw : FnScope ["load", "points", "one", "other"] ["load"] (defScope sSw) := ⟨rfl, rfl, rfl, by decide +kernel, rfl, by decide +kernel, by decide +kernel⟩
section
variable {P : Program} {w : World} {K : PySem.W.Frag} {mg : Str → Option Value} {base : Heap}
def spCont (K : PySem.W.Frag) : Sp := fun vs H Q _ => ∃ (p q : Addr) (a b c d : Int), vs = [.ref p, .ref q] ∧ SqT K H p [.int a, .int b] ∧ SqT K H q [.int c, .int d] ∧ Q (.bl (decide (a ≤ c) && decide (d ≤ b))) H
theorem ok_Cont {f : Addr} {fd : FuncData} {k : Nat} (F : Fun K "contains" "contains" sCont f fd) : FnOk P w K mg base CX0 (k + 1) f fd ["outer", "inner"] (spCont K) := by
  refine F.ok scCont (fun vs H Q E h => ?_) (fun cdv A outer s H vs Q E hr h => ?_)
  · obtain ⟨p, q, a, b, c, d, rfl, _⟩ := h
    rfl
  · obtain ⟨p, q, a, b, c, d, rfl, h1, h2, hq⟩ := h
    refine ⟨_, pss_one (ps_ret (pe_and (pe_cmpR op_le (pe_ix ix_tup (pv 0) pe_int (fun _ _ => rfl)) (pe_ix ix_tup (pv 1) pe_int (fun _ _ => rfl)) (nomark _)) (pe_one (pe_cmpR op_le (pe_ix ix_tup (pv 1) pe_int (fun _ _ => rfl)) (pe_ix ix_tup (pv 0) pe_int (fun _ _ => rfl)) (nomark _))))), ?_⟩
    refine ⟨.ref p, rfl, p, _, 0, .int a, rfl, rfl, h1, rfl, .ref q, rfl, q, _, 0, .int c, rfl, rfl, h2, rfl, a, c, rfl, rfl, _, rfl, ?_⟩
    by_cases e : a ≤ c
    · rw [decide_eq_true e] at hq ⊢
      exact iteT ⟨.ref q, rfl, q, _, 1, .int d, rfl, rfl, h2, rfl, .ref p, rfl, p, _, 1, .int b, rfl, rfl, h1, rfl, d, b, rfl, rfl, hq⟩
    · rw [decide_eq_false e] at hq ⊢
      exact iteF hq
def spRng : Sp := fun vs H Q _ => ∃ (a b : Int), vs = [.int a, .int b] ∧ ∀ p, H p = none → Q (.ref p) (upd H p (.tup [.int (rg a b).1, .int (rg a b).2]))
theorem ok_Rng {f : Addr} {fd : FuncData} {k : Nat} (F : Fun K "range_of" "range_of" sRng f fd) (mn : mg "min" = none) (mx : mg "max" = none) : FnOk P w K mg base CX0 (k + 1) f fd ["one", "other"] spRng := by
  refine F.ok scRng (fun vs H Q E h => ?_) (fun cdv A outer s H vs Q E hr h => ?_)
  · obtain ⟨a, b, rfl, _⟩ := h
    rfl
  · obtain ⟨a, b, rfl, hq⟩ := h
    refine ⟨_, pss_one (ps_ret (pe_tup (pa_cons (pe_callB (call_min2 rfl) (by rfl) mn (by decide +kernel) (pa_cons (pv 0) (pa_cons (pv 1) pa_nil))) (pa_cons (pe_callB (call_max2 rfl) (by rfl) mx (by decide +kernel) (pa_cons (pv 0) (pa_cons (pv 1) pa_nil))) pa_nil)))), ?_⟩
    exact ⟨.int a, rfl, .int b, rfl, a, b, rfl, .int a, rfl, .int b, rfl, a, b, rfl, by show 2 ≤ sizeLine; decide, fun p np => hq p np⟩
def spBtw : Sp := fun vs H Q _ => ∃ (r b a : Int), vs = [.int r, .int b, .int a] ∧ Q (.bl (decide (Btw r b a))) H
theorem ok_btw {f : Addr} {fd : FuncData} {k : Nat} (F : Fun K "_lies_between" "_lies_between" sBtw f fd) : FnOk P w K mg base CX0 (k + 1) f fd ["reading", "before", "after"] spBtw := by
  refine F.ok scBtw (fun vs H Q E h => ?_) (fun cdv A outer s H vs Q E hr h => ?_)
  · obtain ⟨r, b, a, rfl, _⟩ := h
    rfl
  · obtain ⟨r, b, a, rfl, hq⟩ := h
    refine ⟨_, pss_one (ps_ret (pe_or (pe_chain op_lt op_lt (pv 1) (pv 0) (pv 2)) (pe_one (pe_chain op_lt op_lt (pv 2) (pv 0) (pv 1))))), ?_⟩
    refine ⟨.int b, rfl, .int r, rfl, b, r, rfl, rfl, _, rfl, ?_⟩
    have second : ¬ (b < r ∧ r < a) → tOrV (fun _ H Q => Q (.bl false) H) (tChain (fun x y H Q => ∃ i j, x = .int i ∧ y = .int j ∧ Q (.bl (decide (i < j))) H) (fun x y H Q => ∃ i j, x = .int i ∧ y = .int j ∧ Q (.bl (decide (i < j))) H) (tVar 2) (tVar 0) (tVar 1)) [some (.int r), some (.int b), some (.int a)] H Q := by
      intro hn
      refine ⟨false, rfl, iteF ⟨.int a, rfl, .int r, rfl, a, r, rfl, rfl, _, rfl, ?_⟩⟩
      by_cases e : a < r
      · rw [decide_eq_true e]
        refine iteT ⟨.int b, rfl, r, b, rfl, rfl, ?_⟩
        have e2 : decide (Btw r b a) = decide (r < b) := by rw [decide_eq_decide]; omega
        rw [e2] at hq
        exact hq
      · rw [decide_eq_false e]
        have e2 : decide (Btw r b a) = false := decide_eq_false (by omega)
        rw [e2] at hq
        exact iteF hq
    by_cases e : b < r
    · rw [decide_eq_true e]
      refine iteT ⟨.int a, rfl, r, a, rfl, rfl, _, rfl, ?_⟩
      by_cases e2 : r < a
      · rw [decide_eq_true e2]
        have e3 : decide (Btw r b a) = true := decide_eq_true (.inl ⟨e, e2⟩)
        rw [e3] at hq
        exact iteT hq
      · rw [decide_eq_false e2]
        obtain ⟨_, h1, h2⟩ := second (fun z => e2 z.2)
        cases h1
        exact h2
    · rw [decide_eq_false e]
      obtain ⟨_, h1, h2⟩ := second (fun z => e z.1)
      cases h1
      exact iteF ⟨false, rfl, h2⟩
end
end PA

/-! places, sorted pairs, the stack's turns -/
namespace RN
open PM RM
def takenAt (ps : List Int) (i : Nat) : Bool := match ps.drop i with
  | a :: b :: c :: d :: _ => decide (Taken a b c d)
  | _ => false
theorem taken_here {ps : List Int} {i : Nat} (h : takenAt ps i = true) : ∃ pre a b c d post, ps = pre ++ a :: b :: c :: d :: post ∧ pre.length = i ∧ Taken a b c d := by
  unfold takenAt at h
  split at h
  · rename_i a b c d post e
    refine ⟨ps.take i, a, b, c, d, post, by rw [← e, List.take_append_drop], ?_, of_decide_eq_true h⟩
    have : (ps.drop i).length = post.length + 4 := by rw [e]; simp
    rw [List.length_drop] at this
    rw [List.length_take]
    omega
  · cases h
theorem taken_get {ps : List Int} {i : Nat} {a b c d : Int} (h0 : ps[i]? = some a) (h1 : ps[i + 1]? = some b) (h2 : ps[i + 2]? = some c) (h3 : ps[i + 3]? = some d) : takenAt ps i = decide (Taken a b c d) := by
  have e : ∀ {j : Nat} {r : Int}, ps[j]? = some r → ps.drop j = r :: ps.drop (j + 1) := fun {j r} h => by
    obtain ⟨k1, k2⟩ := List.getElem?_eq_some_iff.mp h
    rw [List.drop_eq_getElem_cons k1, k2]
  unfold takenAt
  rw [e h0, e h1, e h2, e h3]
theorem taken_lt {ps : List Int} {i : Nat} (h : takenAt ps i = true) : i < ps.length - 3 := by
  obtain ⟨pre, a, b, c, d, post, e, hl, _⟩ := taken_here h
  rw [e]
  simp only [List.length_append, List.length_cons]
  omega
theorem step_at {ps q : List Int} {cy : Int × Int} (h : Step ps cy q) : ∃ i, takenAt ps i = true := by
  induction h with
  | here t => exact ⟨0, decide_eq_true t⟩
  | there _ ih =>
    obtain ⟨i, e⟩ := ih
    exact ⟨i + 1, e⟩
def plc (ps : List Int) : List Int := ((List.range (ps.length - 3)).filter (takenAt ps)).map fun (i : Nat) => (i : Int) + 1
theorem plc_mem {ps : List Int} {x : Int} (h : x ∈ plc ps) : ∃ i : Nat, x = (i : Int) + 1 ∧ takenAt ps i = true := by
  obtain ⟨i, hi, e⟩ := List.mem_map.mp h
  exact ⟨i, e.symm, (List.mem_filter.mp hi).2⟩
theorem nf_of_plc {ps : List Int} (h : plc ps = []) : NF ps := by
  intro c q s
  obtain ⟨i, e⟩ := step_at s
  have : (i : Int) + 1 ∈ plc ps := List.mem_map.mpr ⟨i, List.mem_filter.mpr ⟨List.mem_range.mpr (taken_lt e), e⟩, rfl⟩
  rw [h] at this
  cases this
theorem plc_of_nf {ps : List Int} (h : NF ps) : plc ps = [] := by
  cases e : plc ps with
  | nil => rfl
  | cons x l =>
    have hx : x ∈ plc ps := by rw [e]; exact List.mem_cons_self
    obtain ⟨i, _, t⟩ := plc_mem hx
    obtain ⟨pre, a, b, c, d, post, e2, _, tk⟩ := taken_here t
    rw [e2] at h
    exact absurd ((Step.here tk).prefix pre) (h _ _)
theorem Run.suffix {p q : List Int} {cs : List (Int × Int)} (h : Run p cs q) (l : List Int) : Run (p ++ l) cs (q ++ l) := by
  induction h with
  | nil p => exact .nil _
  | cons s _ ih => exact .cons (s.suffix l) ih
theorem Run.ends {p r : List Int} {cs : List (Int × Int)} (h : Run p cs r) : (cs = [] ∧ p = r) ∨ 2 ≤ r.length := by
  induction h with
  | nil p => exact .inl ⟨rfl, rfl⟩
  | @cons p q r c cs s h ih =>
    refine .inr ?_
    rcases ih with ⟨_, e⟩ | e
    · subst e
      have : ∀ {p q : List Int} {c : Int × Int}, Step p c q → 2 ≤ q.length := by
        intro p q c s
        induction s with
        | here _ => simp only [List.length_cons]; omega
        | there _ ih => simp only [List.length_cons]; omega
      exact this s
    · exact e
theorem tq_zig : ∀ (l : List Int) (b a : Int), ZZ (b :: a :: l) → tq b a l = a :: l
  | [], _, _, _ => rfl
  | r :: l, b, a, z => by
    have h1 := z.1
    simp only [tq]
    rw [if_neg (by omega), if_neg (by omega), tq_zig l a r z.2]
theorem zz_tp {ps : List Int} (z : ZZ ps) : tp ps = ps := by
  match ps, z with
  | [], _ => rfl
  | [x], _ => rfl
  | x :: y :: l, z =>
    show ts x (y :: l) = _
    simp only [ts]
    rw [if_neg (zz_cons z), tq_zig l x y z]
/-- pairs in their order -/
abbrev Le (r s : Int × Int) : Prop := r.1 < s.1 ∨ (r.1 = s.1 ∧ r.2 ≤ s.2)
theorem le_anti {r s : Int × Int} (h1 : Le r s) (h2 : Le s r) : r = s := by
  obtain ⟨a, b⟩ := r
  obtain ⟨c, d⟩ := s
  have e1 : a = c := by simp only [Le] at h1 h2; omega
  have e2 : b = d := by simp only [Le] at h1 h2; omega
  rw [e1, e2]
theorem sorted_same : ∀ {l m : List (Int × Int)}, l.Perm m → l.Pairwise Le → m.Pairwise Le → l = m
  | [], m, h, _, _ => (List.Perm.nil_eq h)
  | x :: l, m, h, h1, h2 => by
    cases m with
    | nil => exact absurd h.length_eq (by simp)
    | cons y m =>
      have hx := List.pairwise_cons.mp h1
      have hy := List.pairwise_cons.mp h2
      have e : x = y := by
        have m1 : x ∈ y :: m := h.mem_iff.mp List.mem_cons_self
        have m2 : y ∈ x :: l := h.mem_iff.mpr List.mem_cons_self
        rcases List.mem_cons.mp m1 with e | e
        · exact e
        · rcases List.mem_cons.mp m2 with e' | e'
          · exact e'.symm
          · exact le_anti (hx.1 y e') (hy.1 x e)
      subst e
      rw [sorted_same ((List.perm_cons x).mp h) hx.2 hy.2]
end RN

/-! readings put behind a rest one by one -/
namespace RS
open PM RM RN
/-- the last of some points is none any more with a reading behind it -/
def lo : List Int → Int → Bool
  | [], _ => false
  | [u], r => decide (u = r)
  | [b, u], r => decide (u = r) || decide (Btw u b r)
  | _ :: u :: v :: t, r => lo (u :: v :: t) r
def push : List Int → Int → List Int
  | [], r => [r]
  | [u], r => if u = r then [r] else [u, r]
  | [b, u], r => if u = r ∨ Btw u b r then [b, r] else [b, u, r]
  | b :: u :: v :: t, r => b :: push (u :: v :: t) r
theorem lo_two : ∀ (dn : List Int) (b u r : Int), lo (dn ++ [b, u]) r = (decide (u = r) || decide (Btw u b r))
  | [], _, _, _ => rfl
  | [x], _, _, _ => rfl
  | x :: y :: dn, b, u, r => by
    have h := lo_two (y :: dn) b u r
    cases dn with
    | nil => exact h
    | cons z dn => exact h
theorem push_lo : ∀ (p : List Int) (r : Int), push p r = (if lo p r = true then p.dropLast else p) ++ [r]
  | [], _ => rfl
  | [u], r => by
    simp only [push, lo, decide_eq_true_eq]
    split <;> simp
  | [b, u], r => by
    simp only [push, lo, Bool.or_eq_true, decide_eq_true_eq]
    split <;> simp
  | b :: u :: v :: t, r => by
    have h := push_lo (u :: v :: t) r
    simp only [push, lo]
    rw [h]
    by_cases e : lo (u :: v :: t) r = true
    · simp [e]
    · simp [e]
theorem push_two (dn : List Int) (b u r : Int) : push (dn ++ [b, u]) r = if u = r ∨ Btw u b r then dn ++ [b, r] else dn ++ [b, u, r] := by
  rw [push_lo, lo_two]
  simp only [Bool.or_eq_true, decide_eq_true_eq]
  split
  · rw [show dn ++ [b, u] = (dn ++ [b]) ++ [u] by simp, List.dropLast_concat]; simp
  · simp
theorem push_cons (b : Int) : ∀ {p : List Int} (r : Int), 2 ≤ p.length → push (b :: p) r = b :: push p r
  | [], _, h => by simp at h
  | [_], _, h => by simp at h
  | _ :: _ :: _, _, _ => rfl
theorem tq_ne (b a : Int) : ∀ l, 1 ≤ (tq b a l).length
  | [] => Nat.le_refl _
  | r :: l => by
    simp only [tq]
    split
    · exact tq_ne b a l
    · split
      · exact tq_ne b r l
      · simp
theorem tq_push : ∀ (l : List Int) (b a r : Int), b :: tq b a (l ++ [r]) = push (b :: tq b a l) r
  | [], b, a, r => by
    show b :: tq b a [r] = push [b, a] r
    simp only [tq, push]
    by_cases e : a = r
    · rw [if_pos e, if_pos (Or.inl e), e]
    · rw [if_neg e]
      by_cases bt : Btw a b r
      · rw [if_pos bt, if_pos (Or.inr bt)]
      · rw [if_neg bt, if_neg (fun z => z.elim e bt)]
  | x :: l, b, a, r => by
    simp only [List.cons_append, tq]
    by_cases e : a = x
    · rw [if_pos e, if_pos e]
      exact tq_push l b a r
    · rw [if_neg e, if_neg e]
      by_cases bt : Btw a b x
      · rw [if_pos bt, if_pos bt]
        exact tq_push l b x r
      · rw [if_neg bt, if_neg bt, tq_push l a x r, push_cons b r (by have := tq_ne a x l; simp; omega)]
theorem ts_push : ∀ (l : List Int) (a r : Int), ts a (l ++ [r]) = push (ts a l) r
  | [], a, r => by
    show ts a [r] = push [a] r
    simp only [ts, push]
    by_cases e : a = r
    · rw [if_pos e, if_pos e, e]
    · rw [if_neg e, if_neg e]
      rfl
  | x :: l, a, r => by
    simp only [List.cons_append, ts]
    by_cases e : a = x
    · rw [if_pos e, if_pos e]
      exact ts_push l a r
    · rw [if_neg e, if_neg e]
      exact tq_push l a x r
theorem tp_push (l : List Int) (r : Int) : tp (l ++ [r]) = push (tp l) r := by
  cases l with
  | nil => rfl
  | cons a l => exact ts_push l a r
theorem tp_take {ns : List Int} {i : Nat} {r : Int} (h : ns[i]? = some r) : tp (ns.take (i + 1)) = push (tp (ns.take i)) r := by
  rw [List.take_add_one, h]
  exact tp_push _ _
/-- with points that go up and down, so they go on -/
theorem zz_push {p : List Int} (r : Int) (h : ZZ p) : ZZ (push p r) := by
  have e := tp_push p r
  rw [zz_tp h] at e
  rw [← e]
  exact tp_zz _
theorem taken_abs {a b c d : Int} (h : ZZ (a :: b :: c :: d :: [])) : Taken a b c d ↔ (((b - a).natAbs : Int) ≥ ((c - b).natAbs : Int) ∧ ((d - c).natAbs : Int) ≥ ((c - b).natAbs : Int)) := by
  rw [taken_iff h]
  have h1 := h.1
  have h2 := h.2.1
  omega
theorem zz_at {ps : List Int} : ZZ ps → ∀ {i : Nat} {a b c d : Int}, ps[i]? = some a → ps[i + 1]? = some b → ps[i + 2]? = some c → ps[i + 3]? = some d → ZZ [a, b, c, d] := by
  intro h
  induction ps with
  | nil => intro i a b c d h0; cases h0
  | cons x p ih =>
    intro i a b c d h0 h1 h2 h3
    cases i with
    | succ i => exact ih h.tail h0 h1 h2 h3
    | zero =>
      match p, h, h1, h2, h3 with
      | y :: z :: u :: t, h, h1, h2, h3 =>
        obtain rfl := Option.some.inj h0
        obtain rfl := Option.some.inj h1
        obtain rfl := Option.some.inj h2
        obtain rfl := Option.some.inj h3
        exact h.four
theorem zz_mid {pre : List Int} {a b c d : Int} {post : List Int} (h : ZZ (pre ++ a :: b :: c :: d :: post)) : ZZ [a, b, c, d] := by
  induction pre with
  | nil => exact h.four
  | cons x p ih => exact ih h.tail
theorem zz_mid3 {pre : List Int} {a b c : Int} {post : List Int} (h : ZZ (pre ++ a :: b :: c :: post)) : ((a < b ∧ c < b) ∨ (b < a ∧ b < c)) := by
  induction pre with
  | nil => exact h.1
  | cons x p ih => exact ih h.tail
theorem step_on {p q : List Int} {cy : Int × Int} (s : Step p cy q) : ∀ {m : List Int} {b u : Int}, p = m ++ [b, u] → ZZ p →
    ∃ m' b', q = m' ++ [b', u] ∧ (b < u ↔ b' < u) ∧ (u < b ↔ u < b') ∧ ∀ r, (b < u → u ≤ r) → (u < b → r ≤ u) → Step (m ++ [b, r]) cy (m' ++ [b', r]) := by
  induction s with
  | @here a b1 c d post t =>
    intro m b u e z
    have ti := (taken_iff z.four).mp t
    rcases List.eq_nil_or_concat post with rfl | ⟨post1, y, rfl⟩
    · have e2 : [a, b1] ++ [c, d] = m ++ [b, u] := e
      obtain ⟨rfl, e4⟩ := List.append_inj' e2 rfl
      injection e4 with e5 e6
      injection e6 with e6 _
      subst e5 e6
      refine ⟨[], a, rfl, by omega, by omega, fun r h1 h2 => ?_⟩
      have zr : ZZ [a, b1, c, r] := ⟨z.1, by have := z.2.1; constructor; have := z.1; omega; show c ≠ r; omega⟩
      exact .here ((taken_iff zr).mpr (by omega))
    · rcases List.eq_nil_or_concat post1 with rfl | ⟨post2, x, rfl⟩
      · have e2 : [a, b1, c] ++ [d, y] = m ++ [b, u] := e
        obtain ⟨rfl, e4⟩ := List.append_inj' e2 rfl
        injection e4 with e5 e6
        injection e6 with e6 _
        subst e5 e6
        exact ⟨[a], d, rfl, Iff.rfl, Iff.rfl, fun r _ _ => .here t⟩
      · have e2 : (a :: b1 :: c :: d :: post2) ++ [x, y] = m ++ [b, u] := by rw [← e]; simp
        obtain ⟨rfl, e4⟩ := List.append_inj' e2 rfl
        injection e4 with e5 e6
        injection e6 with e6 _
        subst e5 e6
        exact ⟨a :: d :: post2, x, by simp, Iff.rfl, Iff.rfl, fun r _ _ => .here t⟩
  | @there x p q cy s ih =>
    intro m b u e z
    cases m with
    | nil =>
      have hl := s.len
      injection e with _ e
      rw [e] at hl
      simp at hl
    | cons y m =>
      injection e with e1 e2
      subst e1
      obtain ⟨m', b', h1, h2, h3, h4⟩ := ih e2 z.tail
      exact ⟨x :: m', b', by rw [h1]; rfl, h2, h3, fun r k1 k2 => .there (h4 r k1 k2)⟩
theorem run_on {p q : List Int} {cs : List (Int × Int)} (h : Run p cs q) : ∀ {m : List Int} {b u : Int}, p = m ++ [b, u] → ZZ p →
    ∃ m' b', q = m' ++ [b', u] ∧ (b < u ↔ b' < u) ∧ (u < b ↔ u < b') ∧ ∀ r, (b < u → u ≤ r) → (u < b → r ≤ u) → Run (m ++ [b, r]) cs (m' ++ [b', r]) := by
  induction h with
  | nil p => exact fun {m b u} e z => ⟨m, b, e, Iff.rfl, Iff.rfl, fun r _ _ => .nil _⟩
  | @cons p q r0 c cs s run ih =>
    intro m b u e z
    obtain ⟨m1, b1, h1, h2, h3, h4⟩ := step_on s e z
    obtain ⟨m2, b2, k1, k2, k3, k4⟩ := ih h1 (ZZ.step s z)
    exact ⟨m2, b2, k1, h2.trans k2, h3.trans k3, fun r j1 j2 => .cons (h4 r j1 j2) (k4 r (fun z => j1 (h2.mpr z)) (fun z => j2 (h3.mpr z)))⟩
theorem step_two {p q : List Int} {c : Int × Int} (s : Step p c q) : 2 ≤ q.length := by
  induction s with
  | here _ => simp only [List.length_cons]; omega
  | there _ ih => simp only [List.length_cons]; omega
theorem two_last {p : List Int} (h : 2 ≤ p.length) : ∃ m b u, p = m ++ [b, u] := by
  rcases List.eq_nil_or_concat p with rfl | ⟨m1, d, rfl⟩
  · simp at h
  · rcases List.eq_nil_or_concat m1 with rfl | ⟨m2, c, rfl⟩
    · simp at h
    · exact ⟨m2, c, d, by simp⟩
/-- a reading behind a load is a reading behind its rest -/
theorem run_push {p q : List Int} {cs : List (Int × Int)} (h : Run p cs q) (z : ZZ p) (r : Int) : Run (push p r) cs (push q r) := by
  by_cases h2 : 2 ≤ p.length
  · obtain ⟨m, b, u, rfl⟩ := two_last h2
    obtain ⟨m', b', rfl, e1, e2, e3⟩ := run_on h rfl z
    rw [push_two, push_two]
    by_cases hb : u = r ∨ Btw u b r
    · have hb' : u = r ∨ Btw u b' r := hb.imp id (fun k => by omega)
      rw [if_pos hb, if_pos hb']
      exact e3 r (fun k => by omega) (fun k => by omega)
    · have hb' : ¬ (u = r ∨ Btw u b' r) := fun k => hb (k.imp id (fun k => by omega))
      rw [if_neg hb, if_neg hb']
      have := RN.Run.suffix h [r]
      simpa using this
  · cases h with
    | nil _ => exact .nil _
    | cons s _ =>
      have := s.len
      have := step_two s
      exact absurd (show 2 ≤ p.length by omega) h2
theorem Run.append {p q r : List Int} {cs ds : List (Int × Int)} (h : Run p cs q) (k : Run q ds r) : Run p (cs ++ ds) r := by
  induction h with
  | nil p => exact k
  | cons s _ ih => exact .cons s (ih k)
/-- one reading more -/
theorem stream {ns : List Int} {i : Nat} {r : Int} {cs cs2 : List (Int × Int)} {rs rs2 : List Int} (hr : ns[i]? = some r) (h : Run (tp (ns.take i)) cs rs) (k : Run (push rs r) cs2 rs2) : Run (tp (ns.take (i + 1))) (cs ++ cs2) rs2 := by
  rw [tp_take hr]
  exact Run.append (run_push h (tp_zz _) r) k
theorem push_len (p : List Int) (r : Int) : (push p r).length ≤ p.length + 1 := by
  rw [push_lo]
  split <;> simp
end RS

/-! turning_points, swings -/
namespace PB
open PySem PySem.Spec PyProof.Rows L2 KA PH PM PA RM RS
theorem atI_last2 (xs : List V) (u v : V) : atI (xs ++ [u] ++ [v]) (-2) = some u := by
  have hl : (xs ++ [u] ++ [v]).length = xs.length + 2 := by simp
  have h : ixN (xs ++ [u] ++ [v]).length (-2) = some xs.length := by
    unfold ixN
    rw [hl, if_neg (by decide), if_pos (by omega)]
    congr 1
    omega
  unfold atI
  rw [h]
  show (xs ++ [u] ++ [v])[xs.length]? = some u
  simp
theorem drop_at {ns : List Int} {i : Nat} {r : Int} (h : ns[i]? = some r) : ns.drop i = r :: ns.drop (i + 1) := by
  obtain ⟨h1, h2⟩ := List.getElem?_eq_some_iff.mp h
  rw [List.drop_eq_getElem_cons h1, h2]
section
variable {P : Program} {w : World} {K : PySem.W.Frag} {mg : Str → Option Value} {base : Heap}
def spTPl (K : PySem.W.Frag) : Sp := fun vs H Q _ => ∃ (a : Addr) (ns : List Int), vs = [.ref a] ∧ SqL K H a (ns.map V.int) ∧ ns.length ≤ 2500 ∧ ∀ H' p, Same H H' → H p = none → H' p = some (.tup ((tp ns).map V.int)) → Q (.ref p) H'
def spTPt (K : PySem.W.Frag) : Sp := fun vs H Q _ => ∃ (a : Addr) (ns : List Int), vs = [.ref a] ∧ SqT K H a (ns.map V.int) ∧ ns.length ≤ 2500 ∧ ∀ H' p, Same H H' → H p = none → H' p = some (.tup ((tp ns).map V.int)) → Q (.ref p) H'
abbrev spTP (K : PySem.W.Frag) : Sp := fun vs H Q E => spTPl K vs H Q E ∨ spTPt K vs H Q E
def spLO (K : PySem.W.Frag) : Sp := fun vs H Q _ => ∃ (a : Addr) (ps : List Int) (r : Int), vs = [.ref a, .int r] ∧ SqL K H a (ps.map V.int) ∧ Q (.bl (lo ps r)) H
theorem ends3 (ps : List Int) : ps = [] ∨ (∃ u, ps = [u]) ∨ ∃ dn b u, ps = dn ++ [b, u] := by
  rcases List.eq_nil_or_concat ps with h | ⟨m1, d, h⟩
  · exact .inl h
  · rcases List.eq_nil_or_concat m1 with h1 | ⟨m2, c, h1⟩
    · subst h1
      exact .inr (.inl ⟨d, by rw [h]; rfl⟩)
    · subst h1
      exact .inr (.inr ⟨m2, c, d, by rw [h]; simp⟩)
theorem ok_LO {f fB : Addr} {fd fdB : FuncData} {k : Nat} (F : Fun K "is_left_out" "is_left_out" sLO f fd) (FB : Fun K "_lies_between" "_lies_between" sBtw fB fdB) (gB : mg "_lies_between" = some (.ref fB)) (bB : Binds K fdB ["reading", "before", "after"] [])
    (ml : mg "len" = none) : FnOk P w K mg base CX0 (k + 2) f fd ["points", "reading"] (spLO K) := by
  have GB : FnOk P w K mg base CX0 (k + 1) fB fdB ["reading", "before", "after"] spBtw := ok_btw FB
  refine F.ok scLO (fun vs H Q E h => ?_) (fun cdv A outer s H vs Q E hr h => ?_)
  · obtain ⟨a, ps, r, rfl, _⟩ := h
    rfl
  · obtain ⟨a, ps, r, rfl, hS, hq⟩ := h
    refine ⟨_, pss_cons (ps_if (pt_not (pt_truth (pv 0) (by intro _; rfl))) (pss_one (ps_ret pe_bl)) pss_nil)
      (pss_cons (ps_set (i := 2) scLO.nd rfl (.inl rfl) (pe_ix ix_list (pv 0) (pe_un un_neg pe_int) (fun _ _ => rfl)))
      (pss_one (ps_ret (pe_or (pe_cmpR op_eq (pv 2) (pv 1) (nomark _)) (pe_one (pe_and (pe_cmpR op_gt (pe_callB call_len_seq (by rfl) ml PySem.boot_len (pa_cons (pv 0) pa_nil)) pe_int (nomark _))
        (pe_one (pe_call GB hr (by rfl) gB FB.kp bB .nil pass0 (pa_cons (pv 2) (pa_cons (pe_ix ix_list (pv 0) (pe_un un_neg pe_int) (fun _ _ => rfl)) (pa_cons (pv 1) pa_nil))))))))))), ?_⟩
    rcases ends3 ps with rfl | ⟨u, rfl⟩ | ⟨dn, b, u, rfl⟩
    · refine ⟨.ref a, rfl, false, .inl ⟨[], hS, rfl⟩, ?_⟩
      refine iteT ?_
      exact hq
    · refine ⟨.ref a, rfl, true, .inl ⟨[.int u], hS, rfl⟩, ?_⟩
      refine iteF ?_
      refine ⟨.ref a, rfl, 1, rfl, a, _, -1, .int u, rfl, rfl, hS, rfl, .int u, rfl, .int r, rfl, rfl, _, rfl, ?_⟩
      by_cases e : u = r
      · rw [show lo [u] r = true from decide_eq_true e] at hq
        rw [decide_eq_true (show V.int u = V.int r by rw [e])]
        exact iteT hq
      · rw [show lo [u] r = false from decide_eq_false e] at hq
        rw [decide_eq_false (show ¬ V.int u = V.int r from fun z => e (V.int.inj z))]
        exact iteF ⟨.ref a, rfl, a, _, rfl, .inl hS, _, _, rfl, rfl, _, rfl, iteF hq⟩
    · have em : ((dn ++ [b, u]).map V.int) = (dn.map V.int ++ [V.int b]) ++ [V.int u] := by simp
      rw [em] at hS
      have e0 : (!((dn.map V.int ++ [V.int b]) ++ [V.int u]).isEmpty) = true := by cases dn <;> rfl
      have hL : ((dn.map V.int ++ [V.int b]) ++ [V.int u]).length = dn.length + 2 := by simp
      rw [lo_two] at hq
      refine ⟨.ref a, rfl, true, .inl ⟨_, hS, e0.symm⟩, ?_⟩
      refine iteF ?_
      refine ⟨.ref a, rfl, 1, rfl, a, _, -1, .int u, rfl, rfl, hS, atI_last _ _, .int u, rfl, .int r, rfl, rfl, _, rfl, ?_⟩
      by_cases e : u = r
      · rw [decide_eq_true e, Bool.true_or] at hq
        rw [decide_eq_true (show V.int u = V.int r by rw [e])]
        exact iteT hq
      · rw [decide_eq_false e, Bool.false_or] at hq
        rw [decide_eq_false (show ¬ V.int u = V.int r from fun z => e (V.int.inj z))]
        have h2 : decide ((((dn.map V.int ++ [V.int b]) ++ [V.int u]).length : Int) > 1) = true := decide_eq_true (by rw [hL]; omega)
        refine iteF ⟨.ref a, rfl, a, _, rfl, .inl hS, _, _, rfl, rfl, _, rfl, ?_⟩
        rw [h2]
        exact iteT ⟨.int u, rfl, .ref a, rfl, 2, rfl, a, _, -2, .int b, rfl, rfl, hS, atI_last2 _ _ _, .int r, rfl, u, b, r, rfl, hq⟩
theorem ok_TPl {f fL : Addr} {fd fdL : FuncData} {k : Nat} (F : Fun K "turning_points" "turning_points" sTP f fd) (GL : FnOk P w K mg base CX0 (k + 2) fL fdL ["points", "reading"] (spLO K)) (gL : mg "is_left_out" = some (.ref fL)) (kL : PySem.W.keepIn K (.ref fL) = true) (bL : Binds K fdL ["points", "reading"] [])
    (mt : mg "tuple" = none) : FnOk P w K mg base CX0 (k + 3) f fd ["load"] (spTPl K) := by
  refine F.ok scTP (fun vs H Q E h => ?_) (fun cdv A outer s H vs Q E hr h => ?_)
  · obtain ⟨a, ns, rfl, _⟩ := h
    rfl
  · obtain ⟨a, ns, rfl, hS, hlen, hq⟩ := h
    refine ⟨_, pss_cons (ps_set (i := 1) scTP.nd rfl (.inl rfl) (pe_lst pa_nil))
      (pss_cons (ps_for PassesOwn.never rfl (pi_list (pv 0)) (pg_name (i := 2) scTP.nd rfl (.inl rfl))
        (pss_cons (ps_if (pt_val (pe_call GL hr (by rfl) gL kL bL .nil pass0 (pa_cons (pv 1) (pa_cons (pv 2) pa_nil))))
              (pss_one (ps_expr (pe_bm0 PySem.F.plainAttrs_list PySem.F.slot_list_pop PySem.F.type_list_pop mt_pop (pv 1)))) pss_nil)
            (pss_one (ps_expr (pe_bm PySem.F.plainAttrs_list PySem.F.slot_list_append PySem.F.type_list_append mt_append (pv 1) (pa_cons (pv 2) pa_nil))))))
      (pss_one (ps_ret (pe_callTy call_tuple_of (by rfl) mt (by decide +kernel) (pa_cons (pv 1) pa_nil))))), ?_⟩
    refine ⟨Nat.zero_le _, fun D nD => ?_⟩
    have sm : ∀ o, Same H (upd H D o) := fun o => same_new nD
    refine ⟨.ref a, rfl, a, rfl, ⟨_, (sm _).seq hS⟩, for_list (K := K) (a := a) (xs := ns.map V.int)
      (fun i σ H' => ∃ (r2 : Option V), σ = [some (.ref a), some (.ref D), r2] ∧ H' = upd H D (.lst ((tp (ns.take i)).map V.int)) ∧ (tp (ns.take i)).length ≤ i) ?_ ?_ ?_ ?_⟩
    · exact ⟨none, rfl, rfl, Nat.le_refl _⟩
    · rintro i σ H' _ ⟨r2, rfl, rfl, _⟩
      exact (sm _).seq hS
    · rintro i x σ H' hx ⟨r2, rfl, rfl, hpl⟩
      obtain ⟨r, hr2, rfl⟩ := int_at hx
      have hin : i < ns.length := (List.getElem?_eq_some_iff.mp hr2).1
      rw [tp_take hr2]
      generalize tp (ns.take i) = ps at hpl ⊢
      have hpl2 := Nat.le_trans (push_len ps r) (Nat.succ_le_succ hpl)
      refine ⟨.ref D, rfl, .int r, rfl, D, ps, r, rfl, SqL.of upd_same, _, rfl, ?_⟩
      have hp := push_lo ps r
      cases hl : lo ps r with
      | true =>
        rw [hl, if_pos rfl] at hp
        have hne : ps ≠ [] := fun z => by rw [z] at hl; cases hl
        obtain ⟨ps', u, rfl⟩ : ∃ ps' u, ps = ps' ++ [u] := by
          rcases List.eq_nil_or_concat ps with h | ⟨m1, d, h⟩
          · exact absurd h hne
          · exact ⟨m1, d, by rw [h]; simp⟩
        rw [List.dropLast_concat] at hp
        have em : (ps' ++ [u]).map V.int = ps'.map V.int ++ [V.int u] := by simp
        have hl' : (ps' ++ [u]).length = ps'.length + 1 := by simp
        refine iteT ⟨.ref D, rfl, .inl ⟨rfl, _, SqL.of upd_same⟩, D, ps'.map V.int ++ [V.int u], .int u, rfl, rfl, by rw [upd_same, em], by simp, ?_⟩
        refine ⟨.ref D, rfl, .inl ⟨rfl, _, SqL.of upd_same⟩, .int r, rfl, D, ps'.map V.int, _, rfl, rfl, by rw [upd_same, List.dropLast_concat], by rw [List.length_map]; exact small3000 (by omega), _, rfl, ?_, hpl2⟩
        rw [upd_upd, upd_upd, hp, List.map_append]
        rfl
      | false =>
        rw [hl, if_neg (by decide)] at hp
        refine iteF ?_
        refine ⟨.ref D, rfl, .inl ⟨rfl, _, SqL.of upd_same⟩, .int r, rfl, D, _, _, rfl, rfl, upd_same, by rw [List.length_map]; exact small3000 (by omega), _, rfl, ?_, hpl2⟩
        rw [upd_upd, hp, List.map_append]
        rfl
    · rintro σ H' ⟨r2, rfl, rfl, hpl⟩
      have et : ns.take (ns.map V.int).length = ns := by rw [List.length_map]; exact List.take_length
      rw [et]
      exact ⟨.ref D, rfl, D, _, rfl, .inl ⟨SqL.of upd_same, fun l nl => hq _ l ((sm _).trans (same_new nl)) ((sm _).free nl) upd_same⟩⟩
theorem ok_TPt {f fL : Addr} {fd fdL : FuncData} {k : Nat} (F : Fun K "turning_points" "turning_points" sTP f fd) (GL : FnOk P w K mg base CX0 (k + 2) fL fdL ["points", "reading"] (spLO K)) (gL : mg "is_left_out" = some (.ref fL)) (kL : PySem.W.keepIn K (.ref fL) = true) (bL : Binds K fdL ["points", "reading"] [])
    (mt : mg "tuple" = none) : FnOk P w K mg base CX0 (k + 3) f fd ["load"] (spTPt K) := by
  refine F.ok scTP (fun vs H Q E h => ?_) (fun cdv A outer s H vs Q E hr h => ?_)
  · obtain ⟨a, ns, rfl, _⟩ := h
    rfl
  · obtain ⟨a, ns, rfl, hS, hlen, hq⟩ := h
    refine ⟨_, pss_cons (ps_set (i := 1) scTP.nd rfl (.inl rfl) (pe_lst pa_nil))
      (pss_cons (ps_for PassesOwn.never rfl (pi_tup (pv 0)) (pg_name (i := 2) scTP.nd rfl (.inl rfl))
        (pss_cons (ps_if (pt_val (pe_call GL hr (by rfl) gL kL bL .nil pass0 (pa_cons (pv 1) (pa_cons (pv 2) pa_nil))))
              (pss_one (ps_expr (pe_bm0 PySem.F.plainAttrs_list PySem.F.slot_list_pop PySem.F.type_list_pop mt_pop (pv 1)))) pss_nil)
            (pss_one (ps_expr (pe_bm PySem.F.plainAttrs_list PySem.F.slot_list_append PySem.F.type_list_append mt_append (pv 1) (pa_cons (pv 2) pa_nil))))))
      (pss_one (ps_ret (pe_callTy call_tuple_of (by rfl) mt (by decide +kernel) (pa_cons (pv 1) pa_nil))))), ?_⟩
    refine ⟨Nat.zero_le _, fun D nD => ?_⟩
    have sm : ∀ o, Same H (upd H D o) := fun o => same_new nD
    refine ⟨.ref a, rfl, a, rfl, ⟨_, SqT_same (sm _) hS⟩, for_tup (K := K) (a := a) (xs := ns.map V.int)
      (fun i σ H' => ∃ (r2 : Option V), σ = [some (.ref a), some (.ref D), r2] ∧ H' = upd H D (.lst ((tp (ns.take i)).map V.int)) ∧ (tp (ns.take i)).length ≤ i) ?_ ?_ ?_ ?_⟩
    · exact ⟨none, rfl, rfl, Nat.le_refl _⟩
    · rintro i σ H' _ ⟨r2, rfl, rfl, _⟩
      exact SqT_same (sm _) hS
    · rintro i x σ H' hx ⟨r2, rfl, rfl, hpl⟩
      obtain ⟨r, hr2, rfl⟩ := int_at hx
      have hin : i < ns.length := (List.getElem?_eq_some_iff.mp hr2).1
      rw [tp_take hr2]
      generalize tp (ns.take i) = ps at hpl ⊢
      have hpl2 := Nat.le_trans (push_len ps r) (Nat.succ_le_succ hpl)
      refine ⟨.ref D, rfl, .int r, rfl, D, ps, r, rfl, SqL.of upd_same, _, rfl, ?_⟩
      have hp := push_lo ps r
      cases hl : lo ps r with
      | true =>
        rw [hl, if_pos rfl] at hp
        have hne : ps ≠ [] := fun z => by rw [z] at hl; cases hl
        obtain ⟨ps', u, rfl⟩ : ∃ ps' u, ps = ps' ++ [u] := by
          rcases List.eq_nil_or_concat ps with h | ⟨m1, d, h⟩
          · exact absurd h hne
          · exact ⟨m1, d, by rw [h]; simp⟩
        rw [List.dropLast_concat] at hp
        have em : (ps' ++ [u]).map V.int = ps'.map V.int ++ [V.int u] := by simp
        have hl' : (ps' ++ [u]).length = ps'.length + 1 := by simp
        refine iteT ⟨.ref D, rfl, .inl ⟨rfl, _, SqL.of upd_same⟩, D, ps'.map V.int ++ [V.int u], .int u, rfl, rfl, by rw [upd_same, em], by simp, ?_⟩
        refine ⟨.ref D, rfl, .inl ⟨rfl, _, SqL.of upd_same⟩, .int r, rfl, D, ps'.map V.int, _, rfl, rfl, by rw [upd_same, List.dropLast_concat], by rw [List.length_map]; exact small3000 (by omega), _, rfl, ?_, hpl2⟩
        rw [upd_upd, upd_upd, hp, List.map_append]
        rfl
      | false =>
        rw [hl, if_neg (by decide)] at hp
        refine iteF ?_
        refine ⟨.ref D, rfl, .inl ⟨rfl, _, SqL.of upd_same⟩, .int r, rfl, D, _, _, rfl, rfl, upd_same, by rw [List.length_map]; exact small3000 (by omega), _, rfl, ?_, hpl2⟩
        rw [upd_upd, hp, List.map_append]
        rfl
    · rintro σ H' ⟨r2, rfl, rfl, hpl⟩
      have et : ns.take (ns.map V.int).length = ns := by rw [List.length_map]; exact List.take_length
      rw [et]
      exact ⟨.ref D, rfl, D, _, rfl, .inl ⟨SqL.of upd_same, fun l nl => hq _ l ((sm _).trans (same_new nl)) ((sm _).free nl) upd_same⟩⟩
end
end PB

/-! swings; the law's own points -/
namespace PC
open PySem PySem.Spec PyProof.Rows L2 KA PH PM PA PB RM RS
theorem cut_to (xs : List V) (k : Nat) : cutV xs none (some ((k : Nat) : Int)) = xs.take k := by
  unfold cutV
  rw [HT.sIx_none, HT.sIx_nat]
  simp only [Nat.sub_zero, List.drop_zero]
  rcases Nat.le_total k xs.length with h | h
  · rw [Nat.min_eq_left h]
  · rw [Nat.min_eq_right h, List.take_length, List.take_of_length_le h]
theorem cut_from (xs : List V) (k : Nat) : cutV xs (some ((k : Nat) : Int)) none = xs.drop k := by
  unfold cutV
  rw [HT.sIx_nat, HT.sIx_none]
  rcases Nat.le_total k xs.length with h | h
  · rw [Nat.min_eq_left h, List.take_of_length_le (by rw [List.length_drop]; omega)]
  · rw [Nat.min_eq_right h, Nat.sub_self, List.drop_eq_nil_of_le h]
    rfl
/-- a list of i pairs stands at R, what was tracked stands -/
def Prs (H0 : Hp) (R : Addr) (ps : List Int) (i : Nat) (H : Hp) : Prop := Same H0 H ∧ ∃ xs, H R = some (.lst xs) ∧ PairsAt H xs ((sw ps).take i)
theorem Prs.start {H0 : Hp} {R : Addr} (ps : List Int) (n : H0 R = none) : Prs H0 R ps 0 (upd H0 R (.lst [])) := ⟨same_new n, [], upd_same, trivial⟩
theorem Prs.turn {H0 H1 H2 : Hp} {R q : Addr} {ps : List Int} {i : Nat} {x y : Int} (g : Prs H0 R ps i H1) (n : H0 R = none) (s : Same H1 H2) (nq : H2 q = none) (hx : ps[i]? = some x) (hy : ps[i + 1]? = some y) (hl : ps.length ≤ 2500) :
    ∃ acc, (upd H2 q (.tup [.int (rg x y).1, .int (rg x y).2])) R = some (.lst acc) ∧ acc.length < sizeLine ∧ Prs H0 R ps (i + 1) (upd (upd H2 q (.tup [.int (rg x y).1, .int (rg x y).2])) R (.lst (acc ++ [.ref q]))) := by
  obtain ⟨s0, xs, e, pa⟩ := g
  have e2 := s _ _ e
  have nRq : R ≠ q := ne_of_none e2 nq
  have sq : Same H2 (upd H2 q (.tup [.int (rg x y).1, .int (rg x y).2])) := same_new nq
  have hi : i < ps.length := (List.getElem?_eq_some_iff.mp hx).1
  have hxl : xs.length ≤ i := by rw [pa.length, List.length_take]; omega
  refine ⟨xs, sq _ _ e2, small3000 (by omega), same_again n ((s0.trans s).trans sq), xs ++ [.ref q], upd_same, ?_⟩
  rw [sw_take ps i x y hx hy]
  have other : ∀ {ys : List V} {rs : List (Int × Int)}, PairsAt H1 ys rs → PairsAt (upd (upd H2 q (.tup [.int (rg x y).1, .int (rg x y).2])) R (.lst (xs ++ [.ref q]))) ys rs := by
    intro ys
    induction ys with
    | nil => intro rs h; cases rs with
      | nil => trivial
      | cons _ _ => exact h.elim
    | cons z zs ih =>
      intro rs h
      cases rs with
      | nil => exact h.elim
      | cons r rs =>
        obtain ⟨⟨p, h1, h2⟩, h3⟩ := h
        have h4 := sq _ _ (s _ _ h2)
        have npR : p ≠ R := fun z => by rw [z, e] at h2; cases h2
        exact ⟨⟨p, h1, by rw [upd_ne npR]; exact h4⟩, ih h3⟩
  refine PairsAt.append (other pa) ⟨⟨q, rfl, ?_⟩, trivial⟩
  rw [upd_ne nRq.symm, upd_same]
theorem Prs.all {H0 H : Hp} {R : Addr} {ps : List Int} {i : Nat} (g : Prs H0 R ps i H) (h : ps.length - 1 ≤ i) : ∃ xs, H R = some (.lst xs) ∧ PairsAt H xs (sw ps) := by
  obtain ⟨_, xs, e, pa⟩ := g
  rw [List.take_of_length_le (by rw [sw_len]; exact h)] at pa
  exact ⟨xs, e, pa⟩
section
variable {P : Program} {w : World} {K : PySem.W.Frag} {mg : Str → Option Value} {base : Heap}
def spSw (K : PySem.W.Frag) : Sp := fun vs H Q _ => ∃ (a : Addr) (ns : List Int), vs = [.ref a] ∧ Sq K H a (ns.map V.int) ∧ ns.length ≤ 2500 ∧ ∀ H' p xs, Same H H' → H p = none → H' p = some (.lst xs) → PairsAt H' xs (sw (tp ns)) → Q (.ref p) H'
theorem ok_sw {f fP fR : Addr} {fd fdP fdR : FuncData} {k : Nat} (F : Fun K "swings" "swings" sSw f fd) (GP : FnOk P w K mg base CX0 (k + 2) fP fdP ["load"] (spTP K)) (gP : mg "turning_points" = some (.ref fP)) (kP : PySem.W.keepIn K (.ref fP) = true) (bP : Binds K fdP ["load"] [])
    (GR : FnOk P w K mg base CX0 (k + 1) fR fdR ["one", "other"] spRng) (gR : mg "range_of" = some (.ref fR)) (kR : PySem.W.keepIn K (.ref fR) = true) (bR : Binds K fdR ["one", "other"] []) (mz : mg "zip" = none) : FnOk P w K mg base CX0 (k + 3) f fd ["load"] (spSw K) := by
  refine F.ok scSw (fun vs H Q E h => ?_) (fun cdv A outer s H vs Q E hr h => ?_)
  · obtain ⟨a, ns, rfl, _⟩ := h
    rfl
  · obtain ⟨a, ns, rfl, hS, hlen, hq⟩ := h
    have h1 := hr.mono (Nat.le_succ (k + 1))
    refine ⟨_, pss_cons (ps_set (i := 1) scSw.nd rfl (.inl rfl) (pe_call GP hr (by rfl) gP kP bP .nil pass0 (pa_cons (pv 0) pa_nil)))
      (pss_one (ps_ret (pe_lc (own := [("one", 2), ("other", 3)]) (g := gTup K 2 (gCons (gName 2) (gCons (gName 3) gNil))) rfl scSw.nd
        (RZ.pi_zipA (by rfl) mz (pa_cons (pv 1) (pa_cons (pe_slice sl_tupA (pv 1) (po_some pe_int) po_none) pa_nil)))
        (blkOk_by (own := [("one", 2), ("other", 3)]) (N := ["load", "points", "one", "other"]) (sc := defScope sSw) (by decide +kernel))
        (fun _ _ _ _ _ => pg_tup rfl (pgs_cons (pg_name (i := 2) scSw.nd rfl (Or.inl rfl) (Or.inr rfl)) (pgs_cons (pg_name (i := 3) scSw.nd rfl (Or.inl rfl) (Or.inr rfl)) pgs_nil)))
        (fun _ _ _ _ _ => pts_nil) (fun _ _ _ _ _ => pe_call GR h1 (by rfl) gR kR bR .nil pass0 (pa_cons (pv 2) (pa_cons (pv 3) pa_nil)))))), ?_⟩
    refine ⟨.ref a, rfl, ?_⟩
    have hps : (tp ns).length ≤ 2500 := Nat.le_trans (tp_len ns) hlen
    rcases hS with hS | hS
    · refine .inl ⟨a, ns, rfl, hS, hlen, fun H1 t s1 nt et => ?_⟩
      refine ⟨.ref t, rfl, .ref t, rfl, 1, rfl, t, (tp ns).map V.int, rfl, SqT.of et, fun hw => ?_, fun hn c nc => ?_⟩
      · have e0 : (tp ns).map V.int = [] := by
          have z := hw.1
          rw [show (some (1 : Int)) = some ((1 : Nat) : Int) from rfl, HT.sIx_nat] at z
          exact List.length_eq_zero_iff.mp (by omega)
        have hc : SqT K H1 t (((tp ns).map V.int).drop 1) := by
          rw [e0]
          rw [e0] at et
          exact SqT.of et
        have s2 := Same.refl H1
        refine ⟨t, t, (tp ns).map V.int, ((tp ns).map V.int).drop 1, rfl, .inr ⟨SqT.of (s2 _ _ et), hc, fun R nR => lc_it (walk_tups (K := K) (a := t) (b := t) (xs := (tp ns).map V.int) (ys := ((tp ns).map V.int).drop 1) (n := (tp ns).length - 1) (by rw [List.length_drop, List.length_map]; omega))
          (fun i H' => Prs H1 R (tp ns) i H') (Prs.start _ nR) (fun i H' _ g => ⟨SqT.of (g.1 _ _ (s2 _ _ et)), SqT_same g.1 hc⟩) ?_ ?_⟩⟩
        · rintro i x H3 H4 hi g ⟨T, u, v, rfl, nT, rfl, g1, g2⟩
          have g1 : ((tp ns).map V.int)[i]? = some u := g1
          have g2 : (((tp ns).map V.int).drop 1)[i]? = some v := g2
          rw [List.getElem?_drop, Nat.add_comm 1 i] at g2
          obtain ⟨x, hx, rfl⟩ := int_at g1
          obtain ⟨y, hy, rfl⟩ := int_at g2
          refine ⟨T, [.int x, .int y], rfl, SqT.of upd_same, rfl, .int x, [.int y], rfl, .int y, [], rfl, rfl, rfl, ?_⟩
          refine iteT (B := True) ?_
          exact ⟨.int x, rfl, .int y, rfl, x, y, rfl, fun q nq => g.turn nR (same_new nT) nq hx hy hps⟩
        · intro H' g
          obtain ⟨xs, e, pa⟩ := g.all (Nat.le_refl _)
          exact hq H' R xs ((s1.trans s2).trans g.1) ((s1.trans s2).free nR) e pa
      · have hc : SqT K (upd H1 c (.tup (cutV ((tp ns).map V.int) (some 1) none))) c (((tp ns).map V.int).drop 1) := SqT.of (by rw [upd_same, show (some (1 : Int)) = some ((1 : Nat) : Int) from rfl, cut_from])
        have s2 : Same H1 (upd H1 c (.tup (cutV ((tp ns).map V.int) (some 1) none))) := same_new nc
        refine ⟨t, c, (tp ns).map V.int, ((tp ns).map V.int).drop 1, rfl, .inr ⟨SqT.of (s2 _ _ et), hc, fun R nR => lc_it (walk_tups (K := K) (a := t) (b := c) (xs := (tp ns).map V.int) (ys := ((tp ns).map V.int).drop 1) (n := (tp ns).length - 1) (by rw [List.length_drop, List.length_map]; omega))
          (fun i H' => Prs _ R (tp ns) i H') (Prs.start _ nR) (fun i H' _ g => ⟨SqT.of (g.1 _ _ (s2 _ _ et)), SqT_same g.1 hc⟩) ?_ ?_⟩⟩
        · rintro i x H3 H4 hi g ⟨T, u, v, rfl, nT, rfl, g1, g2⟩
          have g1 : ((tp ns).map V.int)[i]? = some u := g1
          have g2 : (((tp ns).map V.int).drop 1)[i]? = some v := g2
          rw [List.getElem?_drop, Nat.add_comm 1 i] at g2
          obtain ⟨x, hx, rfl⟩ := int_at g1
          obtain ⟨y, hy, rfl⟩ := int_at g2
          refine ⟨T, [.int x, .int y], rfl, SqT.of upd_same, rfl, .int x, [.int y], rfl, .int y, [], rfl, rfl, rfl, ?_⟩
          refine iteT (B := True) ?_
          exact ⟨.int x, rfl, .int y, rfl, x, y, rfl, fun q nq => g.turn nR (same_new nT) nq hx hy hps⟩
        · intro H' g
          obtain ⟨xs, e, pa⟩ := g.all (Nat.le_refl _)
          exact hq H' R xs ((s1.trans s2).trans g.1) ((s1.trans s2).free nR) e pa
    · refine .inr ⟨a, ns, rfl, hS, hlen, fun H1 t s1 nt et => ?_⟩
      refine ⟨.ref t, rfl, .ref t, rfl, 1, rfl, t, (tp ns).map V.int, rfl, SqT.of et, fun hw => ?_, fun hn c nc => ?_⟩
      · have e0 : (tp ns).map V.int = [] := by
          have z := hw.1
          rw [show (some (1 : Int)) = some ((1 : Nat) : Int) from rfl, HT.sIx_nat] at z
          exact List.length_eq_zero_iff.mp (by omega)
        have hc : SqT K H1 t (((tp ns).map V.int).drop 1) := by
          rw [e0]
          rw [e0] at et
          exact SqT.of et
        have s2 := Same.refl H1
        refine ⟨t, t, (tp ns).map V.int, ((tp ns).map V.int).drop 1, rfl, .inr ⟨SqT.of (s2 _ _ et), hc, fun R nR => lc_it (walk_tups (K := K) (a := t) (b := t) (xs := (tp ns).map V.int) (ys := ((tp ns).map V.int).drop 1) (n := (tp ns).length - 1) (by rw [List.length_drop, List.length_map]; omega))
          (fun i H' => Prs H1 R (tp ns) i H') (Prs.start _ nR) (fun i H' _ g => ⟨SqT.of (g.1 _ _ (s2 _ _ et)), SqT_same g.1 hc⟩) ?_ ?_⟩⟩
        · rintro i x H3 H4 hi g ⟨T, u, v, rfl, nT, rfl, g1, g2⟩
          have g1 : ((tp ns).map V.int)[i]? = some u := g1
          have g2 : (((tp ns).map V.int).drop 1)[i]? = some v := g2
          rw [List.getElem?_drop, Nat.add_comm 1 i] at g2
          obtain ⟨x, hx, rfl⟩ := int_at g1
          obtain ⟨y, hy, rfl⟩ := int_at g2
          refine ⟨T, [.int x, .int y], rfl, SqT.of upd_same, rfl, .int x, [.int y], rfl, .int y, [], rfl, rfl, rfl, ?_⟩
          refine iteT (B := True) ?_
          exact ⟨.int x, rfl, .int y, rfl, x, y, rfl, fun q nq => g.turn nR (same_new nT) nq hx hy hps⟩
        · intro H' g
          obtain ⟨xs, e, pa⟩ := g.all (Nat.le_refl _)
          exact hq H' R xs ((s1.trans s2).trans g.1) ((s1.trans s2).free nR) e pa
      · have hc : SqT K (upd H1 c (.tup (cutV ((tp ns).map V.int) (some 1) none))) c (((tp ns).map V.int).drop 1) := SqT.of (by rw [upd_same, show (some (1 : Int)) = some ((1 : Nat) : Int) from rfl, cut_from])
        have s2 : Same H1 (upd H1 c (.tup (cutV ((tp ns).map V.int) (some 1) none))) := same_new nc
        refine ⟨t, c, (tp ns).map V.int, ((tp ns).map V.int).drop 1, rfl, .inr ⟨SqT.of (s2 _ _ et), hc, fun R nR => lc_it (walk_tups (K := K) (a := t) (b := c) (xs := (tp ns).map V.int) (ys := ((tp ns).map V.int).drop 1) (n := (tp ns).length - 1) (by rw [List.length_drop, List.length_map]; omega))
          (fun i H' => Prs _ R (tp ns) i H') (Prs.start _ nR) (fun i H' _ g => ⟨SqT.of (g.1 _ _ (s2 _ _ et)), SqT_same g.1 hc⟩) ?_ ?_⟩⟩
        · rintro i x H3 H4 hi g ⟨T, u, v, rfl, nT, rfl, g1, g2⟩
          have g1 : ((tp ns).map V.int)[i]? = some u := g1
          have g2 : (((tp ns).map V.int).drop 1)[i]? = some v := g2
          rw [List.getElem?_drop, Nat.add_comm 1 i] at g2
          obtain ⟨x, hx, rfl⟩ := int_at g1
          obtain ⟨y, hy, rfl⟩ := int_at g2
          refine ⟨T, [.int x, .int y], rfl, SqT.of upd_same, rfl, .int x, [.int y], rfl, .int y, [], rfl, rfl, rfl, ?_⟩
          refine iteT (B := True) ?_
          exact ⟨.int x, rfl, .int y, rfl, x, y, rfl, fun q nq => g.turn nR (same_new nT) nq hx hy hps⟩
        · intro H' g
          obtain ⟨xs, e, pa⟩ := g.all (Nat.le_refl _)
          exact hq H' R xs ((s1.trans s2).trans g.1) ((s1.trans s2).free nR) e pa
end
end PC

/-! places, points taken out -/
namespace QE
open PySem PySem.Spec PyProof.Rows L2 KA PH PM PA PB PC RM RN RS
abbrev sNum : Stmt := topS 6
theorem scNum : FnScope ["value"] ["value"] (defScope sNum) := ⟨rfl, rfl, rfl, by decide +kernel, rfl, by decide +kernel, by decide +kernel⟩
abbrev sMT : Stmt := topS 18
abbrev sPB : Stmt := topS 19
abbrev sCo : Stmt := topS 20
abbrev sClass : Stmt := topS 23
abbrev sLaw : Stmt := topS 43
theorem scMT : FnScope ["points", "place", "size"] ["points", "place"] (defScope sMT) := ⟨rfl, rfl, rfl, by decide +kernel, rfl, by decide +kernel, by decide +kernel⟩
theorem Sq.ix {K : PySem.W.Frag} {H : Hp} {a : Addr} {xs : List V} {z : Int} {v : V} {Q : VK} (h : Sq K H a xs) (e : atI xs z = some v) (q : Q v H) : rIx K (.ref a) (.int z) H Q := by
  rcases h with h | h
  · exact .inl ⟨a, xs, z, v, rfl, rfl, h, e, q⟩
  · exact .inr (.inl ⟨a, xs, z, v, rfl, rfl, h, e, q⟩)
section
variable {P : Program} {w : World} {K : PySem.W.Frag} {mg : Str → Option Value} {base : Heap}
def spMT (K : PySem.W.Frag) : Sp := fun vs H Q _ => ∃ (a : Addr) (ps : List Int) (i : Nat) (z x y t u : Int), vs = [.ref a, .int z] ∧ z = (i : Int) + 1 ∧ Sq K H a (ps.map V.int) ∧ ZZ ps ∧ ps[i]? = some x ∧ ps[i + 1]? = some y ∧ ps[i + 2]? = some t ∧ ps[i + 3]? = some u ∧
  ∀ H', Same H H' → Q (.bl (takenAt ps i)) H'
theorem abs_i (i : Int) : (if i < 0 then -i else i) = (i.natAbs : Int) := by split <;> omega
theorem ok_MT {f : Addr} {fd : FuncData} {k : Nat} (F : Fun K "_may_be_taken" "_may_be_taken" sMT f fd) (ma : mg "abs" = none) : FnOk P w K mg base CX0 (k + 1) f fd ["points", "place"] (spMT K) := by
  refine F.ok scMT (fun vs H Q E h => ?_) (fun cdv A outer s H vs Q E hr h => ?_)
  · obtain ⟨a, ps, i, z, x, y, t, u, rfl, _⟩ := h
    rfl
  · obtain ⟨a, ps, i, z, x, y, t, u, rfl, rfl, hS, zz, e0, e1, e2, e3, hq⟩ := h
    refine ⟨_, pss_cons (ps_set (i := 2) scMT.nd rfl (.inl rfl) (pe_callB call_abs (by rfl) ma (by decide +kernel) (pa_cons (pe_op op_sub (pe_ix ix_seq (pv 0) (pe_op op_add (pv 1) pe_int) (fun _ _ => rfl)) (pe_ix ix_seq (pv 0) (pv 1) (fun _ _ => rfl))) pa_nil)))
      (pss_one (ps_ret (pe_and (pe_cmpR op_ge (pe_callB call_abs (by rfl) ma (by decide +kernel) (pa_cons (pe_op op_sub (pe_ix ix_seq (pv 0) (pv 1) (fun _ _ => rfl)) (pe_ix ix_seq (pv 0) (pe_op op_sub (pv 1) pe_int) (fun _ _ => rfl))) pa_nil)) (pv 2) (nomark _))
        (pe_one (pe_cmpR op_ge (pe_callB call_abs (by rfl) ma (by decide +kernel) (pa_cons (pe_op op_sub (pe_ix ix_seq (pv 0) (pe_op op_add (pv 1) pe_int) (fun _ _ => rfl)) (pe_ix ix_seq (pv 0) (pe_op op_add (pv 1) pe_int) (fun _ _ => rfl))) pa_nil)) (pv 2) (nomark _)))))), ?_⟩
    have a0 : atI (ps.map V.int) ((i : Int) + 1 - 1) = some (.int x) := at_of (j := i) (by omega) (at_int e0)
    have a1 : atI (ps.map V.int) ((i : Int) + 1) = some (.int y) := at_of (j := i + 1) (by omega) (at_int e1)
    have a2 : atI (ps.map V.int) ((i : Int) + 1 + 1) = some (.int t) := at_of (j := i + 2) (by omega) (at_int e2)
    have a3 : atI (ps.map V.int) ((i : Int) + 1 + 2) = some (.int u) := at_of (j := i + 3) (by omega) (at_int e3)
    have hq2 := hq H (Same.refl H)
    rw [taken_get e0 e1 e2 e3] at hq2
    have eT : decide (Taken x y t u) = (decide (((y - x).natAbs : Int) ≥ ((t - y).natAbs : Int)) && decide (((u - t).natAbs : Int) ≥ ((t - y).natAbs : Int))) := by
      rw [← Bool.decide_and, decide_eq_decide]
      exact taken_abs (zz_at zz e0 e1 e2 e3)
    rw [eT] at hq2
    refine ⟨.ref a, rfl, .int ((i : Int) + 1), rfl, _, 1, rfl, rfl, Sq.ix hS a2 ⟨.ref a, rfl, .int ((i : Int) + 1), rfl, Sq.ix hS a1 ⟨t, y, rfl, rfl, _, rfl, ?_⟩⟩⟩
    refine ⟨.ref a, rfl, .int ((i : Int) + 1), rfl, Sq.ix hS a1 ⟨.ref a, rfl, .int ((i : Int) + 1), rfl, _, 1, rfl, rfl, Sq.ix hS a0 ⟨y, x, rfl, rfl, _, rfl, ?_⟩⟩⟩
    refine ⟨_, rfl, _, _, rfl, rfl, _, rfl, ?_⟩
    rw [abs_i, abs_i]
    cases h1 : decide (((y - x).natAbs : Int) ≥ ((t - y).natAbs : Int)) with
    | true =>
      rw [h1, Bool.true_and] at hq2
      refine iteT ⟨.ref a, rfl, .int ((i : Int) + 1), rfl, _, 2, rfl, rfl, Sq.ix hS a3 ⟨.ref a, rfl, .int ((i : Int) + 1), rfl, _, 1, rfl, rfl, Sq.ix hS a2 ⟨u, t, rfl, rfl, _, rfl, ?_⟩⟩⟩
      refine ⟨_, rfl, _, _, rfl, rfl, ?_⟩
      rw [abs_i]
      exact hq2
    | false =>
      rw [h1, Bool.false_and] at hq2
      exact iteF hq2
def spRem (K : PySem.W.Frag) : Sp := fun vs H Q _ => ∃ (a : Addr) (ps : List Int), vs = [.ref a] ∧ Sq K H a (ps.map V.int) ∧ ZZ ps ∧ ps.length ≤ 2500 ∧ ∀ H' p, Same H H' → H p = none → H' p = some (.tup ((plc ps).map V.int)) → Q (.ref p) H'
end
end QE

/-! take; the stack -/
namespace QF
open PySem PySem.Spec PyProof.Rows L2 KA PH PM PA PB PC RM RN RS QE
theorem scPB : FnScope ["rest", "reading", "cycles"] ["rest", "reading"] (defScope sPB) := ⟨rfl, rfl, rfl, by decide +kernel, rfl, by decide +kernel, by decide +kernel⟩
theorem scCo : FnScope ["load", "cycles", "rest", "reading"] ["load"] (defScope sCo) := ⟨rfl, rfl, rfl, by decide +kernel, rfl, by decide +kernel, by decide +kernel⟩
theorem taken_all {ps : List Int} {i : Nat} (h : takenAt ps i = true) : ∃ x y t u, ps[i]? = some x ∧ ps[i + 1]? = some y ∧ ps[i + 2]? = some t ∧ ps[i + 3]? = some u := by
  have := taken_lt h
  exact ⟨_, _, _, _, List.getElem?_eq_getElem (by omega), List.getElem?_eq_getElem (by omega), List.getElem?_eq_getElem (by omega), List.getElem?_eq_getElem (by omega)⟩
section
variable {P : Program} {w : World} {K : PySem.W.Frag} {mg : Str → Option Value} {base : Heap}
def spIR (K : PySem.W.Frag) : Sp := fun vs H Q _ => ∃ (a : Addr) (ps : List Int) (i : Nat) (z : Int), vs = [.ref a, .int z] ∧ z = (i : Int) + 1 ∧ Sq K H a (ps.map V.int) ∧ ZZ ps ∧ takenAt ps i = true ∧ ∀ H', Same H H' → Q (.bl true) H'
def spNum : Sp := fun vs H Q _ => ∃ z : Int, vs = [.int z] ∧ Q (.bl true) H
theorem ok_Num {f : Addr} {fd : FuncData} {k : Nat} (F : Fun K "is_number" "is_number" sNum f fd) (ms : mg "isinstance" = none) (mi : mg "int" = none) (mb : mg "bool" = none) : FnOk P w K mg base CX0 (k + 1) f fd ["value"] spNum := by
  refine F.ok scNum (fun vs H Q E h => ?_) (fun cdv A outer s H vs Q E hr h => ?_)
  · obtain ⟨z, rfl, _⟩ := h
    rfl
  · obtain ⟨z, rfl, hq⟩ := h
    refine ⟨_, pss_one (ps_ret (pe_and (pe_callB call_isi (by rfl) ms (by decide +kernel) (pa_cons (pv 0) (pa_cons (pe_bltn (v := .ty "int") (by rfl) mi (by decide +kernel) rfl) pa_nil)))
        (pe_one (pe_not (pe_callB call_isi (by rfl) ms (by decide +kernel) (pa_cons (pv 0) (pa_cons (pe_bltn (v := .ty "bool") (by rfl) mb (by decide +kernel) rfl) pa_nil))))))), ?_⟩
    refine ⟨.int z, rfl, _, .ty "int", .type "int", .type "int", true, rfl, .ty "int", .base (.int _), kit_ty (by decide +kernel), true, rfl, iteT ?_⟩
    exact ⟨.int z, rfl, _, .ty "bool", .type "int", .type "bool", false, rfl, .ty "bool", .base (.int _), kit_ty (by decide +kernel), false, rfl, hq⟩
end
end QF

/-! the stack -/
namespace QG
open PySem PySem.Spec PyProof.Rows L2 KA PH PM PA PB PC RM RN RS KD QE QF
theorem atI_last3 (xs : List V) (u v w : V) : atI (xs ++ [u, v, w]) (-3) = some u := by
  have hl : (xs ++ [u, v, w]).length = xs.length + 3 := by simp
  have h : ixN (xs ++ [u, v, w]).length (-3) = some xs.length := by
    unfold ixN
    rw [hl, if_neg (by decide), if_pos (by omega)]
    congr 1
    omega
  unfold atI
  rw [h]
  show (xs ++ [u, v, w])[xs.length]? = some u
  simp
theorem atI_last2' (xs : List V) (u v w : V) : atI (xs ++ [u, v, w]) (-2) = some v := by
  have := atI_last2 (xs ++ [u]) v w
  simpa using this
theorem last3 : ∀ {m : List Int}, 3 ≤ m.length → ∃ pre b c d, m = pre ++ [b, c, d] := by
  intro m h
  rcases List.eq_nil_or_concat m with rfl | ⟨m1, d, rfl⟩
  · simp at h
  · rcases List.eq_nil_or_concat m1 with rfl | ⟨m2, c, rfl⟩
    · simp at h
    · rcases List.eq_nil_or_concat m2 with rfl | ⟨m3, b, rfl⟩
      · simp at h
      · exact ⟨m3, b, c, d, by simp⟩
theorem pairs_upd {H : Hp} {R : Addr} {l l' : List V} (e : H R = some (.lst l)) : ∀ {xs : List V} {rs : List (Int × Int)}, PairsAt H xs rs → PairsAt (upd H R (.lst l')) xs rs
  | [], [], _ => trivial
  | x :: xs, r :: rs, ⟨⟨p, h1, h2⟩, h3⟩ => ⟨⟨p, h1, by rw [upd_ne (fun z => by rw [z, e] at h2; cases h2)]; exact h2⟩, pairs_upd e h3⟩
  | [], _ :: _, h => h.elim
  | _ :: _, [], h => h.elim
section
variable {P : Program} {w : World} {K : PySem.W.Frag} {mg : Str → Option Value} {base : Heap}
def spTPq (K : PySem.W.Frag) : Sp := fun vs H Q _ => ∃ (a : Addr) (ns : List Int), vs = [.ref a] ∧ Sq K H a (ns.map V.int) ∧ ns.length ≤ 2500 ∧ ∀ H' p, Same H H' → H p = none → H' p = some (.tup ((tp ns).map V.int)) → Q (.ref p) H'
theorem tpq_of {k : Nat} {f : Addr} {fd : FuncData} (G : FnOk P w K mg base CX0 k f fd ["load"] (spTP K)) : FnOk P w K mg base CX0 k f fd ["load"] (spTPq K) :=
  G.imp fun vs H Q E ⟨a, ns, e, hs, hl, q⟩ => hs.elim (fun z => .inl ⟨a, ns, e, z, hl, q⟩) (fun z => .inr ⟨a, ns, e, z, hl, q⟩)
theorem ch_pairs {f : Addr} {H H' : Hp} {l : List V} (c : Ch f H H') (e : H f = some (.lst l)) : ∀ {xs : List V} {rs : List (Int × Int)}, PairsAt H xs rs → PairsAt H' xs rs
  | [], [], _ => trivial
  | x :: xs, r :: rs, ⟨⟨p, h1, h2⟩, h3⟩ => ⟨⟨p, h1, c _ _ (fun z => by rw [z, e] at h2; cases h2) h2⟩, ch_pairs c e h3⟩
  | [], _ :: _, h => h.elim
  | _ :: _, [], h => h.elim
/-- what put_behind holds -/
structure Bhd (H : Hp) (C R : Addr) (xs : List V) (cs : List (Int × Int)) (rs : List Int) (Hx : Hp) : Prop where
  ch : Ch R H Hx
  c : Hx C = some (.lst xs)
  pa : PairsAt Hx xs cs
  r : Hx R = some (.lst (rs.map V.int))
theorem Bhd.same {H : Hp} {C R : Addr} {xs : List V} {cs : List (Int × Int)} {rs : List Int} {H1 H2 : Hp} (g : Bhd H C R xs cs rs H1) (s : Same H1 H2) : Bhd H C R xs cs rs H2 :=
  ⟨g.ch.trans (.of_same s), s _ _ g.c, g.pa.same s, s _ _ g.r⟩
theorem Bhd.rest {H : Hp} {C R : Addr} {xs : List V} {cs : List (Int × Int)} {rs : List Int} {H1 : Hp} (g : Bhd H C R xs cs rs H1) (nCR : C ≠ R) (rs' : List Int) : Bhd H C R xs cs rs' (upd H1 R (.lst (rs'.map V.int))) :=
  ⟨g.ch.trans .put, by rw [upd_ne nCR]; exact g.c, pairs_upd g.r g.pa, upd_same⟩
theorem Bhd.cyc {H : Hp} {C R q : Addr} {xs : List V} {cs : List (Int × Int)} {rs : List Int} {H1 : Hp} {c : Int × Int} (g : Bhd H C R xs cs rs H1) (nC : H C = none) (nCR : C ≠ R) (hq : H1 q = some (.tup [.int c.1, .int c.2])) :
    Bhd H C R (xs ++ [.ref q]) (cs ++ [c]) rs (upd H1 C (.lst (xs ++ [.ref q]))) :=
  ⟨Ch.again nC g.ch, upd_same, PairsAt.append (pairs_upd g.c g.pa) ⟨⟨q, rfl, by rw [upd_ne (fun z => by rw [z, g.c] at hq; cases hq)]; exact hq⟩, trivial⟩, by rw [upd_ne nCR.symm]; exact g.r⟩
def spPB : Sp := fun vs H Q _ => ∃ (R : Addr) (rs : List Int) (r : Int), vs = [.ref R, .int r] ∧ H R = some (.lst (rs.map V.int)) ∧ ZZ rs ∧ NF rs ∧ rs.length ≤ 2500 ∧
  ∀ H' p xs cs rs', Ch R H H' → H p = none → H' p = some (.lst xs) → PairsAt H' xs cs → H' R = some (.lst (rs'.map V.int)) → Run (push rs r) cs rs' → NF rs' → Q (.ref p) H'
theorem ok_PB {f fL fM fR : Addr} {fd fdL fdM fdR : FuncData} {k : Nat} (F : Fun K "put_behind" "put_behind" sPB f fd)
    (GL : FnOk P w K mg base CX0 (k + 2) fL fdL ["points", "reading"] (spLO K)) (gL : mg "is_left_out" = some (.ref fL)) (kL : PySem.W.keepIn K (.ref fL) = true) (bL : Binds K fdL ["points", "reading"] [])
    (GM : FnOk P w K mg base CX0 (k + 2) fM fdM ["points", "place"] (spMT K)) (gM : mg "_may_be_taken" = some (.ref fM)) (kM : PySem.W.keepIn K (.ref fM) = true) (bM : Binds K fdM ["points", "place"] [])
    (GR : FnOk P w K mg base CX0 (k + 2) fR fdR ["one", "other"] spRng) (gR : mg "range_of" = some (.ref fR)) (kR : PySem.W.keepIn K (.ref fR) = true) (bR : Binds K fdR ["one", "other"] [])
    (ml : mg "len" = none) : FnOk P w K mg base CX0 (k + 3) f fd ["rest", "reading"] spPB := by
  refine F.ok scPB (fun vs H Q E h => ?_) (fun cdv A outer s H vs Q E hr h => ?_)
  · obtain ⟨R, rs, r, rfl, _⟩ := h
    rfl
  · obtain ⟨R, rs0, r, rfl, eR, zz0, nf0, hlen, hq⟩ := h
    refine ⟨_, pss_cons (ps_if (pt_val (pe_call GL hr (by rfl) gL kL bL .nil pass0 (pa_cons (pv 0) (pa_cons (pv 1) pa_nil))))
          (pss_one (ps_expr (pe_bm0 PySem.F.plainAttrs_list PySem.F.slot_list_pop PySem.F.type_list_pop mt_pop (pv 0)))) pss_nil)
      (pss_cons (ps_expr (pe_bm PySem.F.plainAttrs_list PySem.F.slot_list_append PySem.F.type_list_append mt_append (pv 0) (pa_cons (pv 1) pa_nil)))
      (pss_cons (ps_set (i := 2) scPB.nd rfl (.inl rfl) (pe_lst pa_nil))
      (pss_cons (ps_while PassesOwn.never
            (PW.pt (pw_and (pt_cmpR op_gt (pe_callB call_len_seq (by rfl) ml PySem.boot_len (pa_cons (pv 0) pa_nil)) pe_int (nomark _)) (pw_and1 (pt_val (pe_call GM hr (by rfl) gM kM bM .nil pass0 (pa_cons (pv 0) (pa_cons (pe_op op_sub (pe_callB call_len_seq (by rfl) ml PySem.boot_len (pa_cons (pv 0) pa_nil)) pe_int) pa_nil)))))))
            (pss_cons (ps_expr (pe_bm PySem.F.plainAttrs_list PySem.F.slot_list_append PySem.F.type_list_append mt_append (pv 2) (pa_cons (pe_call GR hr (by rfl) gR kR bR .nil pass0 (pa_cons (pe_ix ix_list (pv 0) (pe_un un_neg pe_int) (fun _ _ => rfl)) (pa_cons (pe_ix ix_list (pv 0) (pe_un un_neg pe_int) (fun _ _ => rfl)) pa_nil))) pa_nil)))
              (pss_one (DS.ps_del31 (pv 0) (po_some (pe_un un_neg pe_int)) (po_some (pe_un un_neg pe_int))))))
      (pss_one (ps_ret (pv 2)))))), ?_⟩
    have zz1 : ZZ (push rs0 r) := zz_push r zz0
    have hp := push_lo rs0 r
    have hpl := push_len rs0 r
    refine ⟨.ref R, rfl, .int r, rfl, R, rs0, r, rfl, SqL.of eR, _, rfl, ?_⟩
    obtain ⟨m, nfm, em, hm1⟩ : ∃ m, NF m ∧ push rs0 r = m ++ [r] ∧ m = (if lo rs0 r = true then rs0.dropLast else rs0) := by
      refine ⟨_, ?_, hp, rfl⟩
      split
      · rcases List.eq_nil_or_concat rs0 with h | ⟨m1, d, h⟩
        · rw [h] at nf0 ⊢
          exact nf0
        · have h : rs0 = m1 ++ [d] := by rw [h]; simp
          rw [h] at nf0 ⊢
          rw [List.dropLast_concat]
          exact nf_prefix nf0
      · exact nf0
    rw [em] at zz1 hpl hq
    have hml : m.length ≤ 2500 := by
      rw [hm1]
      split
      · rw [List.length_dropLast]; omega
      · exact hlen
    have e1 : m.map V.int ++ [V.int r] = (m ++ [r]).map V.int := by rw [List.map_append]; rfl
    have start : ∀ C, (upd H R (.lst ((m ++ [r]).map V.int))) C = none → Bhd H C R [] [] (m ++ [r]) (upd (upd H R (.lst ((m ++ [r]).map V.int))) C (.lst [])) ∧ C ≠ R ∧ H C = none := by
      intro C nC
      have nCR : C ≠ R := fun z => by rw [z, upd_same] at nC; cases nC
      have nC0 : H C = none := by rw [upd_ne nCR] at nC; exact nC
      refine ⟨⟨.again nC0 .put, upd_same, trivial, by rw [upd_ne nCR.symm, upd_same]⟩, nCR, nC0⟩
    cases hl : lo rs0 r
    · rw [hl, if_neg (by decide)] at hm1
      subst hm1
      refine iteF ?_
      refine ⟨.ref R, rfl, .inl ⟨rfl, _, SqL.of eR⟩, .int r, rfl, R, _, _, rfl, rfl, eR, by rw [List.length_map]; exact small3000 (by omega), ?_⟩
      rw [e1]
      refine ⟨Nat.zero_le _, fun C nC => ?_⟩
      obtain ⟨g1, nCR, nC0⟩ := start C nC
      generalize upd (upd H R (.lst ((m ++ [r]).map V.int))) C (.lst []) = Hs at g1 ⊢
      refine ⟨fun n σ Hx => ∃ (xs : List V) (cs : List (Int × Int)) (mm : List Int), n = mm.length ∧ σ = [some (.ref R), some (.int r), some (.ref C)] ∧ Bhd H C R xs cs (mm ++ [r]) Hx ∧ Run (m ++ [r]) cs (mm ++ [r]) ∧ NF mm,
        ⟨_, [], [], m, rfl, rfl, g1, .nil _, nfm⟩, ?_⟩
      clear g1
      rintro n σ Hx ⟨xs, cs, mm, rfl, rfl, g, run, nf⟩
      have hrl := run.len
      simp only [List.length_append, List.length_singleton] at hrl
      have zzm := run.zz zz1
      have hm : ((mm ++ [r]).map V.int).length = mm.length + 1 := by simp
      refine ⟨.ref R, rfl, R, _, rfl, .inl (SqL.of g.r), _, 3, rfl, rfl, _, rfl, ?_⟩
      by_cases h3 : 3 ≤ mm.length
      · rw [show decide ((((mm ++ [r]).map V.int).length : Int) > 3) = true from decide_eq_true (by rw [hm]; omega)]
        obtain ⟨pre, b, c, d, rfl⟩ := last3 h3
        have hml : (pre ++ [b, c, d]).length = pre.length + 3 := by simp
        have el : pre ++ [b, c, d] ++ [r] = pre ++ b :: c :: d :: r :: [] := by simp
        have q0 : (pre ++ [b, c, d] ++ [r])[pre.length]? = some b := by rw [el, List.getElem?_append_right (by omega)]; simp
        have q1 : (pre ++ [b, c, d] ++ [r])[pre.length + 1]? = some c := by rw [el, List.getElem?_append_right (by omega)]; simp
        have q2 : (pre ++ [b, c, d] ++ [r])[pre.length + 2]? = some d := by rw [el, List.getElem?_append_right (by omega)]; simp
        have q3 : (pre ++ [b, c, d] ++ [r])[pre.length + 3]? = some r := by rw [el, List.getElem?_append_right (by omega)]; simp
        refine iteT ⟨.ref R, rfl, .ref R, rfl, R, _, rfl, .inl (SqL.of g.r), _, 3, rfl, rfl, R, pre ++ [b, c, d] ++ [r], pre.length, _, b, c, d, r, rfl, by rw [hm, hml]; omega, .inl (SqL.of g.r), zzm, q0, q1, q2, q3, fun H2 s2 => ⟨_, rfl, ?_⟩⟩
        have g2 := g.same s2
        rw [taken_get q0 q1 q2 q3]
        by_cases tk : Taken b c d r
        · rw [decide_eq_true tk]
          refine iteT ⟨fun σ Hx => ∃ m', m' < (pre ++ [b, c, d]).length ∧ ∃ (xs : List V) (cs : List (Int × Int)) (mm : List Int), m' = mm.length ∧ σ = [some (.ref R), some (.int r), some (.ref C)] ∧ Bhd H C R xs cs (mm ++ [r]) Hx ∧ Run (m ++ [r]) cs (mm ++ [r]) ∧ NF mm, fun _ _ z => z, ?_⟩
          have eR : H2 R = some (.lst ((pre ++ [b]).map V.int ++ [V.int c, V.int d, V.int r])) := by
            rw [g2.r]
            simp [List.map_append]
          refine ⟨.ref C, rfl, .inl ⟨rfl, _, SqL.of g2.c⟩, .ref R, rfl, 3, rfl, R, _, -3, .int c, rfl, rfl, SqL.of eR, atI_last3 _ _ _ _, .ref R, rfl, 2, rfl, R, _, -2, .int d, rfl, rfl, SqL.of eR, atI_last2' _ _ _ _, c, d, rfl, fun q nq => ?_⟩
          have s3 := same_new (o := .tup [.int (rg c d).1, .int (rg c d).2]) nq
          have g3 := (g2.same s3).cyc nC0 nCR (upd_same (H := H2) (a := q) (o := .tup [.int (rg c d).1, .int (rg c d).2]))
          have hxl : xs.length ≤ 2500 := by rw [g2.pa.length]; omega
          refine ⟨C, xs, .ref q, rfl, rfl, s3 _ _ g2.c, small3000 (by omega), ?_⟩
          have eR3 : (upd (upd H2 q (.tup [.int (rg c d).1, .int (rg c d).2])) C (.lst (xs ++ [.ref q]))) R = some (.lst ((pre ++ [b]).map V.int ++ [V.int c, V.int d, V.int r])) := by
            rw [upd_ne nCR.symm]
            exact s3 _ _ eR
          refine ⟨.ref R, rfl, 3, rfl, _, rfl, 1, rfl, _, rfl, rfl, rfl, R, (pre ++ [b]).map V.int, .int c, .int d, .int r, rfl, eR3, ?_⟩
          have g4 := g3.rest nCR (pre ++ [b] ++ [r])
          have e5 : (pre ++ [b]).map V.int ++ [V.int r] = (pre ++ [b] ++ [r]).map V.int := by simp [List.map_append]
          rw [e5]
          refine ⟨(pre ++ [b]).length, by simp, _, _, pre ++ [b], rfl, rfl, g4, ?_, nf_prefix (l := [c, d]) (by simpa using nf)⟩
          refine run.snoc ?_
          rw [el, List.append_assoc]
          exact (Step.here tk).prefix pre
        · rw [decide_eq_false tk]
          refine iteF ?_
          refine ⟨.ref C, rfl, hq _ C xs cs _ g2.ch nC0 g2.c g2.pa g2.r run (nf_push nf fun pre' b' c' d' e => ?_)⟩
          have e6 : pre' ++ [b', c', d', r] = (pre' ++ [b', c', d']) ++ [r] := by simp
          rw [e6] at e
          obtain ⟨e7, _⟩ := List.append_inj' e rfl
          obtain ⟨_, e8⟩ := List.append_inj' e7 rfl
          injection e8 with h1 h2
          injection h2 with h2 h3
          injection h3 with h3 _
          subst h1 h2 h3
          exact tk
      · rw [show decide ((((mm ++ [r]).map V.int).length : Int) > 3) = false from decide_eq_false (by rw [hm]; omega)]
        refine iteF ?_
        refine iteF ?_
        refine ⟨.ref C, rfl, hq _ C xs cs _ g.ch nC0 g.c g.pa g.r run (nf_push nf fun pre' b' c' d' e => ?_)⟩
        have : (mm ++ [r]).length = (pre' ++ [b', c', d', r]).length := by rw [e]
        simp only [List.length_append, List.length_cons, List.length_nil] at this
        omega
    · rw [hl, if_pos rfl] at hm1
      obtain ⟨u, hu⟩ : ∃ u, rs0 = m ++ [u] := by
        rcases List.eq_nil_or_concat rs0 with h | ⟨m1, d, h⟩
        · rw [h] at hl; cases hl
        · refine ⟨d, ?_⟩
          rw [hm1, h]
          simp
      have eR2 : H R = some (.lst (m.map V.int ++ [V.int u])) := by rw [eR, hu]; simp
      refine iteT ⟨.ref R, rfl, .inl ⟨rfl, _, SqL.of eR⟩, R, m.map V.int ++ [V.int u], .int u, rfl, rfl, eR2, by simp, ?_⟩
      refine ⟨.ref R, rfl, .inl ⟨rfl, _, SqL.of upd_same⟩, .int r, rfl, R, m.map V.int, _, rfl, rfl, by rw [upd_same, List.dropLast_concat], by rw [List.length_map]; exact small3000 (by omega), ?_⟩
      rw [upd_upd, e1]
      refine ⟨Nat.zero_le _, fun C nC => ?_⟩
      obtain ⟨g1, nCR, nC0⟩ := start C nC
      generalize upd (upd H R (.lst ((m ++ [r]).map V.int))) C (.lst []) = Hs at g1 ⊢
      refine ⟨fun n σ Hx => ∃ (xs : List V) (cs : List (Int × Int)) (mm : List Int), n = mm.length ∧ σ = [some (.ref R), some (.int r), some (.ref C)] ∧ Bhd H C R xs cs (mm ++ [r]) Hx ∧ Run (m ++ [r]) cs (mm ++ [r]) ∧ NF mm,
        ⟨_, [], [], m, rfl, rfl, g1, .nil _, nfm⟩, ?_⟩
      clear g1
      rintro n σ Hx ⟨xs, cs, mm, rfl, rfl, g, run, nf⟩
      have hrl := run.len
      simp only [List.length_append, List.length_singleton] at hrl
      have zzm := run.zz zz1
      have hm : ((mm ++ [r]).map V.int).length = mm.length + 1 := by simp
      refine ⟨.ref R, rfl, R, _, rfl, .inl (SqL.of g.r), _, 3, rfl, rfl, _, rfl, ?_⟩
      by_cases h3 : 3 ≤ mm.length
      · rw [show decide ((((mm ++ [r]).map V.int).length : Int) > 3) = true from decide_eq_true (by rw [hm]; omega)]
        obtain ⟨pre, b, c, d, rfl⟩ := last3 h3
        have hml : (pre ++ [b, c, d]).length = pre.length + 3 := by simp
        have el : pre ++ [b, c, d] ++ [r] = pre ++ b :: c :: d :: r :: [] := by simp
        have q0 : (pre ++ [b, c, d] ++ [r])[pre.length]? = some b := by rw [el, List.getElem?_append_right (by omega)]; simp
        have q1 : (pre ++ [b, c, d] ++ [r])[pre.length + 1]? = some c := by rw [el, List.getElem?_append_right (by omega)]; simp
        have q2 : (pre ++ [b, c, d] ++ [r])[pre.length + 2]? = some d := by rw [el, List.getElem?_append_right (by omega)]; simp
        have q3 : (pre ++ [b, c, d] ++ [r])[pre.length + 3]? = some r := by rw [el, List.getElem?_append_right (by omega)]; simp
        refine iteT ⟨.ref R, rfl, .ref R, rfl, R, _, rfl, .inl (SqL.of g.r), _, 3, rfl, rfl, R, pre ++ [b, c, d] ++ [r], pre.length, _, b, c, d, r, rfl, by rw [hm, hml]; omega, .inl (SqL.of g.r), zzm, q0, q1, q2, q3, fun H2 s2 => ⟨_, rfl, ?_⟩⟩
        have g2 := g.same s2
        rw [taken_get q0 q1 q2 q3]
        by_cases tk : Taken b c d r
        · rw [decide_eq_true tk]
          refine iteT ⟨fun σ Hx => ∃ m', m' < (pre ++ [b, c, d]).length ∧ ∃ (xs : List V) (cs : List (Int × Int)) (mm : List Int), m' = mm.length ∧ σ = [some (.ref R), some (.int r), some (.ref C)] ∧ Bhd H C R xs cs (mm ++ [r]) Hx ∧ Run (m ++ [r]) cs (mm ++ [r]) ∧ NF mm, fun _ _ z => z, ?_⟩
          have eR : H2 R = some (.lst ((pre ++ [b]).map V.int ++ [V.int c, V.int d, V.int r])) := by
            rw [g2.r]
            simp [List.map_append]
          refine ⟨.ref C, rfl, .inl ⟨rfl, _, SqL.of g2.c⟩, .ref R, rfl, 3, rfl, R, _, -3, .int c, rfl, rfl, SqL.of eR, atI_last3 _ _ _ _, .ref R, rfl, 2, rfl, R, _, -2, .int d, rfl, rfl, SqL.of eR, atI_last2' _ _ _ _, c, d, rfl, fun q nq => ?_⟩
          have s3 := same_new (o := .tup [.int (rg c d).1, .int (rg c d).2]) nq
          have g3 := (g2.same s3).cyc nC0 nCR (upd_same (H := H2) (a := q) (o := .tup [.int (rg c d).1, .int (rg c d).2]))
          have hxl : xs.length ≤ 2500 := by rw [g2.pa.length]; omega
          refine ⟨C, xs, .ref q, rfl, rfl, s3 _ _ g2.c, small3000 (by omega), ?_⟩
          have eR3 : (upd (upd H2 q (.tup [.int (rg c d).1, .int (rg c d).2])) C (.lst (xs ++ [.ref q]))) R = some (.lst ((pre ++ [b]).map V.int ++ [V.int c, V.int d, V.int r])) := by
            rw [upd_ne nCR.symm]
            exact s3 _ _ eR
          refine ⟨.ref R, rfl, 3, rfl, _, rfl, 1, rfl, _, rfl, rfl, rfl, R, (pre ++ [b]).map V.int, .int c, .int d, .int r, rfl, eR3, ?_⟩
          have g4 := g3.rest nCR (pre ++ [b] ++ [r])
          have e5 : (pre ++ [b]).map V.int ++ [V.int r] = (pre ++ [b] ++ [r]).map V.int := by simp [List.map_append]
          rw [e5]
          refine ⟨(pre ++ [b]).length, by simp, _, _, pre ++ [b], rfl, rfl, g4, ?_, nf_prefix (l := [c, d]) (by simpa using nf)⟩
          refine run.snoc ?_
          rw [el, List.append_assoc]
          exact (Step.here tk).prefix pre
        · rw [decide_eq_false tk]
          refine iteF ?_
          refine ⟨.ref C, rfl, hq _ C xs cs _ g2.ch nC0 g2.c g2.pa g2.r run (nf_push nf fun pre' b' c' d' e => ?_)⟩
          have e6 : pre' ++ [b', c', d', r] = (pre' ++ [b', c', d']) ++ [r] := by simp
          rw [e6] at e
          obtain ⟨e7, _⟩ := List.append_inj' e rfl
          obtain ⟨_, e8⟩ := List.append_inj' e7 rfl
          injection e8 with h1 h2
          injection h2 with h2 h3
          injection h3 with h3 _
          subst h1 h2 h3
          exact tk
      · rw [show decide ((((mm ++ [r]).map V.int).length : Int) > 3) = false from decide_eq_false (by rw [hm]; omega)]
        refine iteF ?_
        refine iteF ?_
        refine ⟨.ref C, rfl, hq _ C xs cs _ g.ch nC0 g.c g.pa g.r run (nf_push nf fun pre' b' c' d' e => ?_)⟩
        have : (mm ++ [r]).length = (pre' ++ [b', c', d', r]).length := by rw [e]
        simp only [List.length_append, List.length_cons, List.length_nil] at this
        omega
/-- what _counted holds -/
structure Stk (H : Hp) (C R : Addr) (xs : List V) (cs : List (Int × Int)) (rs : List Int) (Hx : Hp) : Prop where
  sm : Same H Hx
  c : Hx C = some (.lst xs)
  pa : PairsAt Hx xs cs
  r : Hx R = some (.lst (rs.map V.int))
def spCoL (K : PySem.W.Frag) : Sp := fun vs H Q _ => ∃ (a : Addr) (ns : List Int), vs = [.ref a] ∧ SqL K H a (ns.map V.int) ∧ ns.length ≤ 2500 ∧
  ∀ H' p c r xs cs rs, Same H H' → H p = none → H' p = some (.tup [.ref c, .ref r]) → H' c = some (.lst xs) → PairsAt H' xs cs → H' r = some (.lst (rs.map V.int)) → Run (tp ns) cs rs → NF rs → Q (.ref p) H'
def spCoT (K : PySem.W.Frag) : Sp := fun vs H Q _ => ∃ (a : Addr) (ns : List Int), vs = [.ref a] ∧ SqT K H a (ns.map V.int) ∧ ns.length ≤ 2500 ∧
  ∀ H' p c r xs cs rs, Same H H' → H p = none → H' p = some (.tup [.ref c, .ref r]) → H' c = some (.lst xs) → PairsAt H' xs cs → H' r = some (.lst (rs.map V.int)) → Run (tp ns) cs rs → NF rs → Q (.ref p) H'
theorem ok_Col {f fB : Addr} {fd fdB : FuncData} {k : Nat} (F : Fun K "_counted" "_counted" sCo f fd)
    (GB : FnOk P w K mg base CX0 (k + 3) fB fdB ["rest", "reading"] spPB) (gB : mg "put_behind" = some (.ref fB)) (kB : PySem.W.keepIn K (.ref fB) = true) (bB : Binds K fdB ["rest", "reading"] []) :
    FnOk P w K mg base CX0 (k + 4) f fd ["load"] (spCoL K) := by
  refine F.ok scCo (fun vs H Q E h => ?_) (fun cdv A outer s H vs Q E hr h => ?_)
  · obtain ⟨a, ns, rfl, _⟩ := h
    rfl
  · obtain ⟨a, ns, rfl, hS, hlen, hq⟩ := h
    refine ⟨_, pss_cons (ps_par (i := 1) (j := 2) (by rfl) scCo.nd rfl rfl (by decide) rfl rfl (pa_cons (pe_lst pa_nil) (pa_cons (pe_lst pa_nil) pa_nil)) (by rfl))
      (pss_cons (ps_for PassesOwn.never rfl (pi_list (pv 0)) (pg_name (i := 3) scCo.nd rfl (.inl rfl))
        (pss_one (ps_expr (pe_bm PySem.F.plainAttrs_list PySem.F.slot_list_extend PySem.F.type_list_extend mt_extend (pv 1) (pa_cons (pe_call GB hr (by rfl) gB kB bB .nil pass0 (pa_cons (pv 2) (pa_cons (pv 3) pa_nil))) pa_nil)))))
      (pss_one (ps_ret (pe_tup (pa_cons (pv 1) (pa_cons (pv 2) pa_nil)))))), ?_⟩
    refine ⟨Nat.zero_le _, fun C nC => ⟨Nat.zero_le _, fun R nR => ⟨.ref C, .ref R, rfl, ?_⟩⟩⟩
    have nCR : C ≠ R := fun z => by rw [← z, upd_same] at nR; cases nR
    have nR0 : H R = none := (same_new nC).free nR
    have sm0 : Same H (upd (upd H C (.lst [])) R (.lst [])) := (same_new nC).trans (same_new nR)
    have eC0 : (upd (upd H C (.lst [])) R (.lst [])) C = some (.lst []) := by rw [upd_ne nCR, upd_same]
    have eR0 : (upd (upd H C (.lst [])) R (.lst [])) R = some (.lst []) := upd_same
    generalize upd (upd H C (.lst [])) R (.lst []) = H0 at sm0 eC0 eR0 ⊢
    have hts : ∀ i, tp (ns.take i) = tp (ns.take i) := fun _ => rfl
    refine ⟨.ref a, rfl, a, rfl, ⟨_, sm0.seq hS⟩, for_list (K := K) (a := a) (xs := ns.map V.int) (fun i σ Hx => ∃ (xs : List V) (cs : List (Int × Int)) (rs : List Int) (r3 : Option V), σ = [some (.ref a), some (.ref C), some (.ref R), r3] ∧
      Stk H C R xs cs rs Hx ∧ Run (tp (ns.take i)) cs rs ∧ NF rs) ?_ ?_ ?_ ?_⟩
    · exact ⟨[], [], [], none, rfl, ⟨sm0, eC0, trivial, eR0⟩, .nil _, fun c q s => by have := s.len; simp at this⟩
    · rintro i σ Hx _ ⟨xs, cs, rs, r3, rfl, g, _⟩
      exact g.sm.seq hS
    · rintro i x σ Hx hx ⟨xs, cs, rs, r3, rfl, g, run, nf⟩
      obtain ⟨r, hr2, rfl⟩ := int_at hx
      have hin : i < ns.length := (List.getElem?_eq_some_iff.mp hr2).1
      have hrl := run.len
      have htl := tp_len (ns.take i)
      rw [List.length_take] at htl
      have zz := run.zz (tp_zz (ns.take i))
      refine ⟨.ref C, rfl, .inl ⟨rfl, _, SqL.of g.c⟩, .ref R, rfl, .int r, rfl, R, rs, r, rfl, g.r, zz, nf, by omega, fun H2 p ys cs2 rs2 ch np ep pa2 eR2 run2 nf2 => ?_⟩
      have eC2 : H2 C = some (.lst xs) := ch _ _ nCR g.c
      have npC : p ≠ C := fun z => by rw [z, g.c] at np; cases np
      have npR : p ≠ R := fun z => by rw [z, g.r] at np; cases np
      have sm2 : Same H H2 := fun b o e => ch b o (ne_of_none e nR0) (g.sm b o e)
      have run3 := stream hr2 run run2
      have hrl3 := run3.len
      have htl3 := tp_len (ns.take (i + 1))
      rw [List.length_take] at htl3
      have hxl := g.pa.length
      have hyl := pa2.length
      rw [List.length_append] at hrl3
      refine ⟨C, p, xs, ys, rfl, rfl, eC2, ep, Nat.le_of_lt (small3000 (by omega)), _, cs ++ cs2, rs2, _, rfl, ⟨same_again nC sm2, upd_same, ?_, by rw [upd_ne nCR.symm]; exact eR2⟩, run3, nf2⟩
      exact PairsAt.append (pairs_upd eC2 (ch_pairs ch g.r g.pa)) (pairs_upd eC2 pa2)
    · rintro σ Hx ⟨xs, cs, rs, r3, rfl, g, run, nf⟩
      have et2 : ns.take (ns.map V.int).length = ns := by rw [List.length_map]; exact List.take_length
      rw [et2] at run
      refine ⟨.ref C, rfl, .ref R, rfl, by show 2 ≤ sizeLine; decide, fun p np => ?_⟩
      have sp := same_new (o := .tup [.ref C, .ref R]) np
      exact hq _ p C R xs cs rs (g.sm.trans sp) (g.sm.free np) upd_same (sp _ _ g.c) (g.pa.same sp) (sp _ _ g.r) run nf
theorem ok_Cot {f fB : Addr} {fd fdB : FuncData} {k : Nat} (F : Fun K "_counted" "_counted" sCo f fd)
    (GB : FnOk P w K mg base CX0 (k + 3) fB fdB ["rest", "reading"] spPB) (gB : mg "put_behind" = some (.ref fB)) (kB : PySem.W.keepIn K (.ref fB) = true) (bB : Binds K fdB ["rest", "reading"] []) :
    FnOk P w K mg base CX0 (k + 4) f fd ["load"] (spCoT K) := by
  refine F.ok scCo (fun vs H Q E h => ?_) (fun cdv A outer s H vs Q E hr h => ?_)
  · obtain ⟨a, ns, rfl, _⟩ := h
    rfl
  · obtain ⟨a, ns, rfl, hS, hlen, hq⟩ := h
    refine ⟨_, pss_cons (ps_par (i := 1) (j := 2) (by rfl) scCo.nd rfl rfl (by decide) rfl rfl (pa_cons (pe_lst pa_nil) (pa_cons (pe_lst pa_nil) pa_nil)) (by rfl))
      (pss_cons (ps_for PassesOwn.never rfl (pi_tup (pv 0)) (pg_name (i := 3) scCo.nd rfl (.inl rfl))
        (pss_one (ps_expr (pe_bm PySem.F.plainAttrs_list PySem.F.slot_list_extend PySem.F.type_list_extend mt_extend (pv 1) (pa_cons (pe_call GB hr (by rfl) gB kB bB .nil pass0 (pa_cons (pv 2) (pa_cons (pv 3) pa_nil))) pa_nil)))))
      (pss_one (ps_ret (pe_tup (pa_cons (pv 1) (pa_cons (pv 2) pa_nil)))))), ?_⟩
    refine ⟨Nat.zero_le _, fun C nC => ⟨Nat.zero_le _, fun R nR => ⟨.ref C, .ref R, rfl, ?_⟩⟩⟩
    have nCR : C ≠ R := fun z => by rw [← z, upd_same] at nR; cases nR
    have nR0 : H R = none := (same_new nC).free nR
    have sm0 : Same H (upd (upd H C (.lst [])) R (.lst [])) := (same_new nC).trans (same_new nR)
    have eC0 : (upd (upd H C (.lst [])) R (.lst [])) C = some (.lst []) := by rw [upd_ne nCR, upd_same]
    have eR0 : (upd (upd H C (.lst [])) R (.lst [])) R = some (.lst []) := upd_same
    generalize upd (upd H C (.lst [])) R (.lst []) = H0 at sm0 eC0 eR0 ⊢
    have hts : ∀ i, tp (ns.take i) = tp (ns.take i) := fun _ => rfl
    refine ⟨.ref a, rfl, a, rfl, ⟨_, SqT_same sm0 hS⟩, for_tup (K := K) (a := a) (xs := ns.map V.int) (fun i σ Hx => ∃ (xs : List V) (cs : List (Int × Int)) (rs : List Int) (r3 : Option V), σ = [some (.ref a), some (.ref C), some (.ref R), r3] ∧
      Stk H C R xs cs rs Hx ∧ Run (tp (ns.take i)) cs rs ∧ NF rs) ?_ ?_ ?_ ?_⟩
    · exact ⟨[], [], [], none, rfl, ⟨sm0, eC0, trivial, eR0⟩, .nil _, fun c q s => by have := s.len; simp at this⟩
    · rintro i σ Hx _ ⟨xs, cs, rs, r3, rfl, g, _⟩
      exact SqT_same g.sm hS
    · rintro i x σ Hx hx ⟨xs, cs, rs, r3, rfl, g, run, nf⟩
      obtain ⟨r, hr2, rfl⟩ := int_at hx
      have hin : i < ns.length := (List.getElem?_eq_some_iff.mp hr2).1
      have hrl := run.len
      have htl := tp_len (ns.take i)
      rw [List.length_take] at htl
      have zz := run.zz (tp_zz (ns.take i))
      refine ⟨.ref C, rfl, .inl ⟨rfl, _, SqL.of g.c⟩, .ref R, rfl, .int r, rfl, R, rs, r, rfl, g.r, zz, nf, by omega, fun H2 p ys cs2 rs2 ch np ep pa2 eR2 run2 nf2 => ?_⟩
      have eC2 : H2 C = some (.lst xs) := ch _ _ nCR g.c
      have npC : p ≠ C := fun z => by rw [z, g.c] at np; cases np
      have npR : p ≠ R := fun z => by rw [z, g.r] at np; cases np
      have sm2 : Same H H2 := fun b o e => ch b o (ne_of_none e nR0) (g.sm b o e)
      have run3 := stream hr2 run run2
      have hrl3 := run3.len
      have htl3 := tp_len (ns.take (i + 1))
      rw [List.length_take] at htl3
      have hxl := g.pa.length
      have hyl := pa2.length
      rw [List.length_append] at hrl3
      refine ⟨C, p, xs, ys, rfl, rfl, eC2, ep, Nat.le_of_lt (small3000 (by omega)), _, cs ++ cs2, rs2, _, rfl, ⟨same_again nC sm2, upd_same, ?_, by rw [upd_ne nCR.symm]; exact eR2⟩, run3, nf2⟩
      exact PairsAt.append (pairs_upd eC2 (ch_pairs ch g.r g.pa)) (pairs_upd eC2 pa2)
    · rintro σ Hx ⟨xs, cs, rs, r3, rfl, g, run, nf⟩
      have et2 : ns.take (ns.map V.int).length = ns := by rw [List.length_map]; exact List.take_length
      rw [et2] at run
      refine ⟨.ref C, rfl, .ref R, rfl, by show 2 ≤ sizeLine; decide, fun p np => ?_⟩
      have sp := same_new (o := .tup [.ref C, .ref R]) np
      exact hq _ p C R xs cs rs (g.sm.trans sp) (g.sm.free np) upd_same (sp _ _ g.c) (g.pa.same sp) (sp _ _ g.r) run nf
def spCo (K : PySem.W.Frag) : Sp := fun vs H Q _ => ∃ (a : Addr) (ns : List Int), vs = [.ref a] ∧ Sq K H a (ns.map V.int) ∧ ns.length ≤ 2500 ∧
  ∀ H' p c r xs cs rs, Same H H' → H p = none → H' p = some (.tup [.ref c, .ref r]) → H' c = some (.lst xs) → PairsAt H' xs cs → H' r = some (.lst (rs.map V.int)) → Run (tp ns) cs rs → NF rs → Q (.ref p) H'
theorem ok_Co {f fB : Addr} {fd fdB : FuncData} {k : Nat} (F : Fun K "_counted" "_counted" sCo f fd)
    (GB : FnOk P w K mg base CX0 (k + 3) fB fdB ["rest", "reading"] spPB) (gB : mg "put_behind" = some (.ref fB)) (kB : PySem.W.keepIn K (.ref fB) = true) (bB : Binds K fdB ["rest", "reading"] []) :
    FnOk P w K mg base CX0 (k + 4) f fd ["load"] (spCo K) :=
  (both (ok_Col F GB gB kB bB) (ok_Cot F GB gB kB bB)).imp fun vs H Q E ⟨a, ns, e, hs, hl, q⟩ => hs.elim (fun z => .inl ⟨a, ns, e, z, hl, q⟩) (fun z => .inr ⟨a, ns, e, z, hl, q⟩)
end
end QG

/-! values of many kinds, as data: none, bools, ints, texts, lists, tuples, the empty dict -/
namespace DV
open PySem PySem.Spec PyProof.Rows L2 KA KD PH
mutual
inductive Dv (f : Addr) (H : Hp) : V → PyData → Prop
  | non : Dv f H .non .none
  | bl (b : Bool) : Dv f H (.bl b) (.bool b)
  | int (i : Int) : Dv f H (.int i) (.int i)
  | str (x : Str) : Dv f H (.str x) (.str x)
  | lst {a : Addr} {xs : List V} {ds : List PyData} : a ≠ f → H a = some (.lst xs) → DvAll f H xs ds → Dv f H (.ref a) (.list ds)
  | tup {a : Addr} {xs : List V} {ds : List PyData} : a ≠ f → H a = some (.tup xs) → DvAll f H xs ds → Dv f H (.ref a) (.tuple ds)
  | dic {a : Addr} : a ≠ f → H a = some (.dT []) → Dv f H (.ref a) (.dict [])
inductive DvAll (f : Addr) (H : Hp) : List V → List PyData → Prop
  | nil : DvAll f H [] []
  | cons {v : V} {vs : List V} {d : PyData} {ds : List PyData} : Dv f H v d → DvAll f H vs ds → DvAll f H (v :: vs) (d :: ds)
end
mutual
theorem Dv.ch {f : Addr} {H H' : Hp} (c : Ch f H H') : ∀ (d : PyData) (v : V), Dv f H v d → Dv f H' v d
  | .none, _, h => by cases h; exact .non
  | .bool b, _, h => by cases h; exact .bl b
  | .int i, _, h => by cases h; exact .int i
  | .str x, _, h => by cases h; exact .str x
  | .list ds, _, h => by
    cases h with
    | lst n e a => exact .lst n (c _ _ n e) (DvAll.ch c ds _ a)
  | .tuple ds, _, h => by
    cases h with
    | tup n e a => exact .tup n (c _ _ n e) (DvAll.ch c ds _ a)
  | .dict kvs, _, h => by
    cases h with
    | dic n e => exact .dic n (c _ _ n e)
theorem DvAll.ch {f : Addr} {H H' : Hp} (c : Ch f H H') : ∀ (ds : List PyData) (vs : List V), DvAll f H vs ds → DvAll f H' vs ds
  | [], _, h => by cases h; exact .nil
  | d :: ds, _, h => by
    cases h with
    | cons h1 h2 => exact .cons (Dv.ch c d _ h1) (DvAll.ch c ds _ h2)
end
theorem Dv.same {f : Addr} {H H' : Hp} {d : PyData} {v : V} (h : Dv f H v d) (s : Same H H') : Dv f H' v d := h.ch (.of_same s) _ _
theorem DvAll.same {f : Addr} {H H' : Hp} {d : List PyData} {v : List V} (h : DvAll f H v d) (s : Same H H') : DvAll f H' v d := h.ch (.of_same s) _ _
theorem DvAll.length {f : Addr} {H : Hp} : ∀ {vs : List V} {ds : List PyData}, DvAll f H vs ds → vs.length = ds.length
  | _, _, .nil => rfl
  | _, _, .cons _ h => by rw [List.length_cons, List.length_cons, h.length]
theorem DvAll.at {f : Addr} {H : Hp} : ∀ {vs : List V} {ds : List PyData} {i : Nat} {v : V}, DvAll f H vs ds → vs[i]? = some v → ∃ d, ds[i]? = some d ∧ Dv f H v d
  | _, _, 0, _, .cons h _, e => ⟨_, rfl, by cases e; exact h⟩
  | _, _, i + 1, _, .cons _ h, e => h.at (i := i) e
theorem DvAll.app {f : Addr} {H : Hp} : ∀ {vs us : List V} {ds es : List PyData}, DvAll f H vs ds → DvAll f H us es → DvAll f H (vs ++ us) (ds ++ es)
  | _, _, _, _, .nil, h => h
  | _, _, _, _, .cons h1 h2, h => .cons h1 (h2.app h)
theorem DvAll.take {f : Addr} {H : Hp} : ∀ {vs : List V} {ds : List PyData} (n : Nat), DvAll f H vs ds → DvAll f H (vs.take n) (ds.take n)
  | _, _, 0, _ => .nil
  | _, _, n + 1, .nil => .nil
  | _, _, n + 1, .cons h1 h2 => .cons h1 (h2.take n)
theorem DvAll.drop {f : Addr} {H : Hp} : ∀ {vs : List V} {ds : List PyData} (n : Nat), DvAll f H vs ds → DvAll f H (vs.drop n) (ds.drop n)
  | _, _, 0, h => h
  | _, _, n + 1, .nil => .nil
  | _, _, n + 1, .cons h1 h2 => h2.drop n
theorem DvAll.rev {f : Addr} {H : Hp} : ∀ {vs : List V} {ds : List PyData}, DvAll f H vs ds → DvAll f H vs.reverse ds.reverse
  | _, _, .nil => .nil
  | _, _, .cons h1 h2 => by rw [List.reverse_cons, List.reverse_cons]; exact h2.rev.app (.cons h1 .nil)
theorem dv_ints {f : Addr} {H : Hp} : ∀ ns : List Int, DvAll f H (ns.map V.int) (dInts ns)
  | [] => .nil
  | n :: ns => .cons (.int n) (dv_ints ns)
theorem dv_pairs {f : Addr} {H : Hp} (hf : ∃ l, H f = some (.lst l)) : ∀ {xs : List V} {rs : List (Int × Int)}, PairsAt H xs rs → DvAll f H xs (dPairs rs)
  | [], [], _ => .nil
  | x :: xs, r :: rs, ⟨⟨p, h1, h2⟩, h3⟩ => by
    subst h1
    exact .cons (.tup (fun z => by obtain ⟨l, hf⟩ := hf; rw [z, hf] at h2; cases h2) h2 (.cons (.int _) (.cons (.int _) .nil))) (dv_pairs hf h3)
  | [], _ :: _, h => h.elim
  | _ :: _, [], h => h.elim
mutual
theorem Dv.dp {f : Addr} {H : Hp} {K : PySem.W.Frag} : ∀ (d : PyData) (v : V), Dv f H v d → d.canLay0 = true → Dp K H v d
  | .none, _, h, _ => by cases h; exact .non
  | .bool b, _, h, _ => by cases h; exact .bl b
  | .int i, _, h, _ => by cases h; exact .int i
  | .str x, _, h, _ => by cases h; exact .str x
  | .list ds, _, h, l => by
    cases h with
    | lst n e a => exact .lst (SqL.of e) (DvAll.dp ds _ a (by simpa only [PyData.canLay0] using l))
  | .tuple ds, _, h, l => by
    cases h with
    | tup n e a => exact .tup (SqT.of e) (DvAll.dp ds _ a (by simpa only [PyData.canLay0] using l))
  | .dict kvs, _, h, l => by simp [PyData.canLay0] at l
theorem DvAll.dp {f : Addr} {H : Hp} {K : PySem.W.Frag} : ∀ (ds : List PyData) (vs : List V), DvAll f H vs ds → PyData.canLayAll0 ds = true → DpAll K H vs ds
  | [], _, h, _ => by cases h; exact .nil
  | d :: ds, _, h, l => by
    cases h with
    | cons h1 h2 =>
      have l2 : d.canLay0 = true ∧ PyData.canLayAll0 ds = true := by simpa only [PyData.canLayAll0, Bool.and_eq_true] using l
      exact .cons (Dv.dp d _ h1 l2.1) (DvAll.dp ds _ h2 l2.2)
end
/-! ### their types -/
def tyS : PyData → String
  | .none => "NoneType" | .bool _ => "bool" | .int _ => "int" | .str _ => "str" | .list _ => "list" | .tuple _ => "tuple" | .dict _ => "dict"
theorem Dv.ty {f : Addr} {H : Hp} {K : PySem.W.Frag} {v : V} {d : PyData} (h : Dv f H v d) : TyX K H v (.type (tyS d)) := by
  cases h with
  | non => exact .base .non
  | bl b => exact .base (.bl b)
  | int i => exact .base (.int i)
  | str x => exact .base (.str x)
  | lst _ e _ => exact .base (.lst e)
  | tup _ e _ => exact .base (.tup e)
  | dic _ e => exact .base (.dT e)
def isI : PyData → Bool
  | .int _ => true | .bool _ => true | _ => false
def isB : PyData → Bool
  | .bool _ => true | _ => false
def isT : PyData → Bool
  | .tuple _ => true | _ => false
theorem kit_i {K : PySem.W.Frag} : ∀ d : PyData, PySem.W.kitOne K (.type (tyS d)) (.type "int") = some (isI d)
  | .none => kit_ty (show kitB "NoneType" "int" = some false by decide +kernel)
  | .bool _ => kit_ty (show kitB "bool" "int" = some true by decide +kernel)
  | .int _ => kit_ty (show kitB "int" "int" = some true by decide +kernel)
  | .str _ => kit_ty (show kitB "str" "int" = some false by decide +kernel)
  | .list _ => kit_ty (show kitB "list" "int" = some false by decide +kernel)
  | .tuple _ => kit_ty (show kitB "tuple" "int" = some false by decide +kernel)
  | .dict _ => kit_ty (show kitB "dict" "int" = some false by decide +kernel)
theorem kit_b {K : PySem.W.Frag} : ∀ d : PyData, PySem.W.kitOne K (.type (tyS d)) (.type "bool") = some (isB d)
  | .none => kit_ty (show kitB "NoneType" "bool" = some false by decide +kernel)
  | .bool _ => kit_ty (show kitB "bool" "bool" = some true by decide +kernel)
  | .int _ => kit_ty (show kitB "int" "bool" = some false by decide +kernel)
  | .str _ => kit_ty (show kitB "str" "bool" = some false by decide +kernel)
  | .list _ => kit_ty (show kitB "list" "bool" = some false by decide +kernel)
  | .tuple _ => kit_ty (show kitB "tuple" "bool" = some false by decide +kernel)
  | .dict _ => kit_ty (show kitB "dict" "bool" = some false by decide +kernel)
theorem kit_t {K : PySem.W.Frag} : ∀ d : PyData, PySem.W.kitOne K (.type (tyS d)) (.type "tuple") = some (isT d)
  | .none => kit_ty (show kitB "NoneType" "tuple" = some false by decide +kernel)
  | .bool _ => kit_ty (show kitB "bool" "tuple" = some false by decide +kernel)
  | .int _ => kit_ty (show kitB "int" "tuple" = some false by decide +kernel)
  | .str _ => kit_ty (show kitB "str" "tuple" = some false by decide +kernel)
  | .list _ => kit_ty (show kitB "list" "tuple" = some false by decide +kernel)
  | .tuple _ => kit_ty (show kitB "tuple" "tuple" = some true by decide +kernel)
  | .dict _ => kit_ty (show kitB "dict" "tuple" = some false by decide +kernel)
theorem isi_i {f : Addr} {H : Hp} {K : PySem.W.Frag} {v : V} {d : PyData} {Q : VK} (h : Dv f H v d) (q : Q (.bl (isI d)) H) : rIsi K [v, .ty "int"] H Q := ⟨v, .ty "int", _, .type "int", _, rfl, .ty "int", h.ty, kit_i d, q⟩
theorem isi_b {f : Addr} {H : Hp} {K : PySem.W.Frag} {v : V} {d : PyData} {Q : VK} (h : Dv f H v d) (q : Q (.bl (isB d)) H) : rIsi K [v, .ty "bool"] H Q := ⟨v, .ty "bool", _, .type "bool", _, rfl, .ty "bool", h.ty, kit_b d, q⟩
theorem isi_t {f : Addr} {H : Hp} {K : PySem.W.Frag} {v : V} {d : PyData} {Q : VK} (h : Dv f H v d) (q : Q (.bl (isT d)) H) : rIsi K [v, .ty "tuple"] H Q := ⟨v, .ty "tuple", _, .type "tuple", _, rfl, .ty "tuple", h.ty, kit_t d, q⟩
/-! ### repr -/
section
variable {X : Cx} {pins : List (Addr × Obj)} {σ : L2.St} {H : Hp} {s : Shared} {f : Addr}
mutual
theorem Dv.reads (I : Inv X pins σ H s) : ∀ (d : PyData) (v : V) (u : Value), Dv f H v d → RelV v u → ∃ as, Reads s.heap u d as ∧ (d = .dict [] → sysModules ∉ as)
  | .none, _, _, h, r => by
    cases h
    cases r
    exact ⟨_, Reads.none, fun z => nomatch z⟩
  | .bool b, _, _, h, r => by
    cases h
    cases r
    exact ⟨_, Reads.bool b, fun z => nomatch z⟩
  | .int i, _, _, h, r => by
    cases h
    obtain ⟨t, rfl⟩ := r
    exact ⟨_, Reads.int i t, fun z => nomatch z⟩
  | .str x, _, _, h, r => by
    cases h
    obtain ⟨t, rfl⟩ := r
    exact ⟨_, Reads.str x t, fun z => nomatch z⟩
  | .list ds, _, _, h, r => by
    cases h with
    | lst hn hs ha =>
      cases r
      obtain ⟨its, rv, ⟨o, n, ho, hc, _, hd⟩, _⟩ := I.list (SqL.of hs)
      obtain ⟨as, hr⟩ := DvAll.reads I ds _ its ha rv
      exact ⟨_, Reads.list ho hc hd hr, fun z => nomatch z⟩
  | .tuple ds, _, _, h, r => by
    cases h with
    | tup hn hs ha =>
      cases r
      obtain ⟨its, rv, ⟨o, ho, hc, n, hd⟩, _⟩ := I.tuple (SqT.of hs)
      obtain ⟨as, hr⟩ := DvAll.reads I ds _ its ha rv
      exact ⟨_, Reads.tuple ho hc hd hr, fun z => nomatch z⟩
  | .dict kvs, _, _, h, r => by
    cases h with
    | dic hn hs =>
      cases r
      obtain ⟨_, hd, xs, kt, o, es, ep, h1, h2, h3, h4, h5⟩ := (show ObjOk X.prog X.w H s.heap _ (.dT []) from I.hok _ _ hs)
      cases kt
      have e0 : es = #[] := by
        have : es.size = 0 := by simpa [Paired] using h4
        exact Array.eq_empty_of_size_eq_zero this
      subst e0
      refine ⟨_, Reads.dict h1 h2.1 h3 .nil .nil, fun _ z => ?_⟩
      simp only [List.append_nil, List.mem_singleton] at z
      rw [← z] at hd
      simp at hd
theorem DvAll.reads (I : Inv X pins σ H s) : ∀ (ds : List PyData) (vs : List V) (us : List Value), DvAll f H vs ds → Vals vs us → ∃ as, ReadsAll s.heap us ds as
  | [], _, _, h, r => by
    cases h
    cases r
    exact ⟨_, ReadsAll.nil⟩
  | d :: ds, _, _, h, r => by
    cases h with
    | cons h1 h2 =>
      cases r with
      | cons r1 r2 =>
        obtain ⟨as, q1, _⟩ := Dv.reads I d _ _ h1 r1
        obtain ⟨bs, q2⟩ := DvAll.reads I ds _ _ h2 r2
        exact ⟨_, ReadsAll.cons q1 q2⟩
end
theorem Dv.shows {prog : Program} {w : World} (I : Inv X pins σ H s) {d : PyData} {v : V} {u : Value} (h : Dv f H v d) (r : RelV v u) (hs : d.showable = true) (hd : d.hasDict = false ∨ d = .dict []) (hz : d.shown.length ≤ sizeLine) :
    ∃ as bs, Reads s.heap u d as ∧ ReadAtMost s.heap d.depth bs ∧ ReprK prog w bs s.heap d.depth u d.shown := by
  obtain ⟨as, rd, no⟩ := Dv.reads I d v u h r
  obtain ⟨bs, b1, b2⟩ := ReprK.of_reads (prog := prog) (w := w) rd hs (fun x => hd.elim (fun z => absurd x (by rw [z]; decide)) no) hz
  exact ⟨as, bs, rd, b1, b2⟩
end
/-! ### small data -/
structure It (d : PyData) : Prop where
  sh : d.showable = true
  le : d.leavesShort 13 = true
  de : d.depth ≤ 4
  we : d.weight ≤ 1000
  lay : d.canLay0 = true
structure Tp (d : PyData) : Prop where
  di : d.hasDict = false ∨ d = .dict []
  sh : d.showable = true
  le : d.leavesShort 13 = true
  de : d.depth ≤ 6
  we : d.weight ≤ 200000
theorem it_int {i : Int} (h : i.natAbs < 2 ^ 39) : It (.int i) :=
  ⟨show_int h, leaf_int h, by simp only [PyData.depth]; omega, by have := weight_int h; omega, rfl⟩
theorem it_all : ∀ {ds : List PyData}, (∀ d ∈ ds, It d) → PyData.showableAll ds = true ∧ PyData.leavesShortAll 13 ds = true ∧ PyData.depthAll ds ≤ 4 ∧ PyData.weightAll ds ≤ 1001 * ds.length ∧ PyData.canLayAll0 ds = true
  | [], _ => ⟨rfl, rfl, Nat.zero_le _, Nat.zero_le _, rfl⟩
  | d :: ds, h => by
    obtain ⟨a1, a2, a3, a4, a5⟩ := it_all fun x hx => h x (List.mem_cons_of_mem _ hx)
    obtain ⟨b1, b2, b3, b4, b5⟩ := h d List.mem_cons_self
    simp only [PyData.showableAll, PyData.leavesShortAll, PyData.depthAll, PyData.weightAll, PyData.canLayAll0, List.length_cons, a1, a2, a5, b1, b2, b5, Bool.and_self, true_and, and_true]
    omega
theorem it_pair {a b : Int} (h1 : a.natAbs < 2 ^ 39) (h2 : b.natAbs < 2 ^ 39) : It (.tuple [.int a, .int b]) := by
  have x := it_int h1
  have y := it_int h2
  have w1 := weight_int h1
  have w2 := weight_int h2
  refine ⟨?_, ?_, ?_, ?_, ?_⟩
  · simp only [PyData.showable, PyData.showableAll]
    have a1 := x.sh; have a2 := y.sh
    simp only [PyData.showable] at a1 a2
    rw [a1, a2]; rfl
  · simp only [PyData.leavesShort, PyData.leavesShortAll]
    have a1 := x.le; have a2 := y.le
    simp only [PyData.leavesShort] at a1 a2
    rw [a1, a2]; rfl
  · simp only [PyData.depth, PyData.depthAll]; omega
  · simp only [PyData.weight, PyData.weightAll] at w1 w2 ⊢
    omega
  · rfl
theorem tp_tup {ds : List PyData} (h : ∀ d ∈ ds, It d) (hl : ds.length ≤ 100) : Tp (.tuple ds) := by
  obtain ⟨a1, a2, a3, a4, a5⟩ := it_all h
  refine ⟨.inl (PyData.hasDict_of_canLay _ (by simp only [PyData.canLay0]; exact a5)), ?_, ?_, ?_, ?_⟩
  · simp only [PyData.showable]; exact a1
  · simp only [PyData.leavesShort]; exact a2
  · simp only [PyData.depth]; omega
  · simp only [PyData.weight]; omega
theorem tp_lst {ds : List PyData} (h : ∀ d ∈ ds, It d) (hl : ds.length ≤ 100) : Tp (.list ds) := by
  obtain ⟨a1, a2, a3, a4, a5⟩ := it_all h
  refine ⟨.inl (PyData.hasDict_of_canLay _ (by simp only [PyData.canLay0]; exact a5)), ?_, ?_, ?_, ?_⟩
  · simp only [PyData.showable]; exact a1
  · simp only [PyData.leavesShort]; exact a2
  · simp only [PyData.depth]; omega
  · simp only [PyData.weight]; omega
theorem tp_one {ds : List PyData} (h : ∀ d ∈ ds, It d) (hl : ds.length ≤ 100) : Tp (.tuple [.tuple ds]) := by
  obtain ⟨a1, a2, a3, a4, a5⟩ := it_all h
  refine ⟨.inl (PyData.hasDict_of_canLay _ (by simp only [PyData.canLay0, PyData.canLayAll0, a5, Bool.and_self])), ?_, ?_, ?_, ?_⟩
  · simp only [PyData.showable, PyData.showableAll, a1, Bool.and_self]
  · simp only [PyData.leavesShort, PyData.leavesShortAll, a2, Bool.and_self]
  · simp only [PyData.depth, PyData.depthAll]; omega
  · simp only [PyData.weight, PyData.weightAll]; omega
theorem tp_len {d : PyData} (h : Tp d) : d.shown.length ≤ sizeLine := PyData.shown_fits (B := 13) (by decide) (by decide) h.le (by have := h.we; omega)
theorem tp2_len {d e : PyData} (h : Tp d) (g : Tp e) : (PyData.list [d, e]).shown.length ≤ sizeLine := by
  refine PyData.shown_fits (B := 13) (by decide) (by decide) ?_ ?_
  · simp only [PyData.leavesShort, PyData.leavesShortAll, h.le, g.le, Bool.and_self]
  · have := h.we; have := g.we
    simp only [PyData.weight, PyData.weightAll]; omega
/-- repr of a list of two values -/
def rReprV : List V → Hp → VK → Prop := fun vs H Q => ∃ (f a : Addr) (v1 v2 : V) (d1 d2 : PyData), vs = [V.ref a] ∧ H a = some (.lst [v1, v2]) ∧ Dv f H v1 d1 ∧ Dv f H v2 d2 ∧ Tp d1 ∧ Tp d2 ∧ Q (.str (PyData.list [d1, d2]).shown) H
theorem cr_reprV {X : Cx} (hg : X.A.guards = some []) (hu : X.A.units + 100 < cLine) : CallR X (.builtin "repr") rReprV := by
  intro pins s σ H vs us Q I r h
  obtain ⟨f, a, v1, v2, d1, d2, rfl, ha, h1, h2, t1, t2, q⟩ := h
  rw [Vals.ref1 r]
  obtain ⟨its, rv, ⟨o, n, ho, hc, _, hd⟩, _⟩ := I.list (SqL.of (K := X.K) ha)
  cases rv with
  | cons r1 rv =>
    rename_i u1 us1
    cases rv with
    | cons r2 rv =>
      rename_i u2 us2
      cases rv
      obtain ⟨as1, b1, rd1, m1, k1⟩ := Dv.shows (prog := X.prog) (w := X.w) I h1 r1 t1.sh t1.di (tp_len t1)
      obtain ⟨as2, b2, rd2, m2, k2⟩ := Dv.shows (prog := X.prog) (w := X.w) I h2 r2 t2.sh t2.di (tp_len t2)
      have rd := Reads.list ho hc hd (ReadsAll.cons rd1 (ReadsAll.cons rd2 ReadsAll.nil))
      have hz := tp2_len t1 t2
      have z1 := t1.de
      have z2 := t2.de
      have mm : ReadAtMost s.heap (PyData.depthAll [d1, d2]) (b1 ++ b2) := (m1.mono (by simp only [PyData.depthAll]; omega)).append (m2.mono (by simp only [PyData.depthAll]; omega))
      have hna : a ∉ b1 ++ b2 := not_mem_of_deeper rd (by simp only [PyData.depth]; omega) mm
      have hk : ReprAllK X.prog X.w (b1 ++ b2) s.heap (PyData.depthAll [d1, d2]) [u1, u2] (PyData.shownAll [d1, d2]) := by
        simp only [PyData.shownAll]
        exact .cons ((k1.more fun b hb => List.mem_append_left _ hb).level_le (by simp only [PyData.depthAll]; omega)) (.cons ((k2.more fun b hb => List.mem_append_right _ hb).level_le (by simp only [PyData.depthAll]; omega)) .nil)
      have hz' : (listText (PyData.shownAll [d1, d2])).length ≤ sizeLine := by simpa only [PyData.shown] using hz
      refine call_repr_slot (by omega) ⟨o, ho, hc⟩ F.slot_list_repr.toG ?_
      refine call_list_reprK ho hc hd hna (by simpa using hk.length_eq) (fun i y e => hk.item i y (by simpa using e)) hg (fun b _ => Clear.nil b) (by show X.A.units + 1 + _ < cLine; simp only [PyData.depthAll]; omega) (fun _ _ e => e) ?_ hz'
      intro h' u tk k
      refine ⟨_, _, rfl, .str _, H, I.kept k, ⟨u, ?_⟩, q⟩
      simp only [PyData.shown]
/-! ### what is written -/
section
variable {X : Cx} {f : Addr} {e : Expr} {es : List Expr} {ds : List PyData} {d : PyData} {pos : Pos}
def teD (f : Addr) (d : PyData) : TE := fun _ H Q => FeedAt H f ∧ ∀ v H', Same H H' → Dv f H' v d → Q v H'
def tLits (f : Addr) : List PyData → TA
  | [] => tNil
  | d :: ds => tCons (teD f d) (tLits f ds)
theorem lits : ∀ (ds : List PyData) (σ : L2.St) (H : Hp) (Q : List V → Hp → Prop), FeedAt H f → (∀ vs H', Same H H' → DvAll f H' vs ds → Q vs H') → tLits f ds σ H Q
  | [], σ, H, Q, _, q => q [] H (Same.refl H) .nil
  | d :: ds, σ, H, Q, hf, q => ⟨hf, fun v H1 s1 dv => lits ds σ H1 _ (hf.same s1) fun vs H2 s2 da => q (v :: vs) H2 (s1.trans s2) (.cons (dv.same s2) da)⟩
theorem pe_D {t : TE} (h : PE X e t) (w : ∀ σ H Q, teD f d σ H Q → t σ H Q) : PE X e (teD f d) := ⟨fun pins s σ H Q I q => h.run pins s σ H Q I (w σ H Q q)⟩
theorem pa_nilD : PA X [] (tLits f []) := pa_nil
theorem pa_consD (ha : PE X e (teD f d)) (hr : PA X es (tLits f ds)) (hs : starEach (e :: es) X.env = (false, eval e X.env) :: starEach es X.env := by rfl) : PA X (e :: es) (tLits f (d :: ds)) := pa_cons ha hr hs
theorem pe_tupD {x1} (h : PA X es (tLits f ds)) (z : ds.length ≤ 100 := by decide) : PE X (.Tuple es x1 pos) (teD f (.tuple ds)) := pe_D (pe_tup h) fun σ H Q q => lits ds σ H _ q.1 fun vs H' s da =>
  ⟨Nat.le_of_lt (small3000 (show vs.length ≤ 3000 by rw [da.length]; omega)), fun p np => q.2 _ _ (s.trans (same_new np)) (.tup ((q.1.same s).ne np) upd_same (da.same (same_new np)))⟩
theorem pe_lstD {x1} (h : PA X es (tLits f ds)) (z : ds.length ≤ 100 := by decide) : PE X (.List es x1) (teD f (.list ds)) := pe_D (pe_lst h) fun σ H Q q => lits ds σ H _ q.1 fun vs H' s da =>
  ⟨Nat.le_of_lt (small3000 (show vs.length ≤ 3000 by rw [da.length]; omega)), fun p np => q.2 _ _ (s.trans (same_new np)) (.lst ((q.1.same s).ne np) upd_same (da.same (same_new np)))⟩
theorem pe_intD {i : Int} (h : PE X e (tC (.int i))) : PE X e (teD f (.int i)) := pe_D h fun σ H Q q => q.2 _ _ (Same.refl H) (.int i)
theorem pe_blD {b : Bool} (h : PE X e (tC (.bl b))) : PE X e (teD f (.bool b)) := pe_D h fun σ H Q q => q.2 _ _ (Same.refl H) (.bl b)
theorem pe_strD {x : Str} (h : PE X e (tC (.str x))) : PE X e (teD f (.str x)) := pe_D h fun σ H Q q => q.2 _ _ (Same.refl H) (.str x)
theorem pe_nonD (h : PE X e (tC .non)) : PE X e (teD f .none) := pe_D h fun σ H Q q => q.2 _ _ (Same.refl H) .non
theorem pe_dicD : PE X (.Dict [] [] pos) (teD f (.dict [])) := pe_D pe_dnewT fun σ H Q q p np => q.2 _ _ (same_new np) (.dic (q.1.ne np) upd_same)
end
end DV

/-! walks and items of what is a list or a tuple; keyword-only parameters -/
namespace GB
open PySem PySem.Spec PyProof.Rows L2 PH KA
section
variable {X : Cx} {tg l : Expr} {tl : TE}
def iBoth (K : PySem.W.Frag) (tl : TE) : TI := fun σ H R => tl σ H fun x H1 => ∃ a, x = .ref a ∧ (((∃ xs, SqL K H1 a xs) ∧ R (Itl K a) H1) ∨ ((∃ xs, SqT K H1 a xs) ∧ R (Itt K a) H1))
theorem pi_both (hl : PE X l tl) : PI X tg l (iBoth X.K tl) := by
  refine ⟨fun pins s σ H R I h => ?_⟩
  refine thn (hl.run pins s σ H _ I h) fun v s1 ⟨x, H1, I1, r1, q1⟩ => ?_
  obtain ⟨a, e, q⟩ := q1
  subst e
  cases r1
  rcases q with ⟨⟨xs, hq⟩, q⟩ | ⟨⟨xs, hq⟩, q⟩
  · obtain ⟨its, rv, p, hz⟩ := I1.list hq
    refine wpAny_pyIter_list p.isList ?_
    refine ⟨s1.heap.objs.size, [s1.heap.objs.size], _, _, H1, rfl, I1.kept (t' := s1.toks) fun b o e => Heap.get?_push_of_some _ e, turn_list a _, ⟨_, Heap.get?_push_size _ rfl, rfl, rfl⟩, fun b hb => ?_, q⟩
    have e : b = s1.heap.objs.size := by simpa using hb
    subst e
    exact I1.fpOk (Nat.le_refl _) (I1.hok.fresh (Nat.le_refl _))
  · obtain ⟨its, rv, p, hz⟩ := I1.tuple hq
    refine wpAny_pyIter_tuple (show s1.heap.IsTuple a its.toArray from p) ?_
    refine ⟨s1.heap.objs.size, [s1.heap.objs.size], _, _, H1, rfl, I1.kept (t' := s1.toks) fun b o e => Heap.get?_push_of_some _ e, turn_tuple a _, ⟨_, Heap.get?_push_size _ rfl, rfl, rfl⟩, fun b hb => ?_, q⟩
    have e : b = s1.heap.objs.size := by simpa using hb
    subst e
    exact I1.fpOk (Nat.le_refl _) (I1.hok.fresh (Nat.le_refl _))
def rIxB (K : PySem.W.Frag) : R2 := fun x y H Q => ∃ p xs i v, x = .ref p ∧ y = .int i ∧ Sq K H p xs ∧ atI xs i = some v ∧ Q v H
theorem ix_both : IxR X (rIxB X.K) := by
  intro value slice pins s σ H x y v u Q I rx ry ⟨p, xs, i, z, e1, e2, hq, he, q⟩ hs
  rcases hq with hq | hq
  · exact ix_list value slice pins s σ H x y v u Q I rx ry ⟨p, xs, i, z, e1, e2, hq, he, q⟩ hs
  · exact ix_tup value slice pins s σ H x y v u Q I rx ry ⟨p, xs, i, z, e1, e2, hq, he, q⟩ hs
end
/-- f(e, .., k = v): the keyword-only parameter is named -/
theorem kbn1 {K : PySem.W.Frag} {x qual : Str} {params : Arguments} {body : List Stmt} {scope : Scope} {kws : List (Str × V)} {f : Addr} {fd : FuncData} {ps : List Str} {k : Str} (F : FunD K x qual params body scope [] kws f fd) (n : Nat)
    (h : ∀ (kV doc pm : Value) (an : Option Addr) (cdv ct : Value) (us : List Value) (w : Value), us.length = n → bindArgs (PySem.W.fnOf x qual params body scope .none kV doc pm an cdv ct) ⟨us, [(k, w)]⟩ = pure (ps.zip (us ++ [w]))) :
    KBn K fd ps n [k] (fun us ws => us ++ ws) (fun vs zs => vs ++ zs) := by
  obtain ⟨oc, od, dV, kV, doc, pm, an, cdv, ct, osl, rfl, lk, hcd, hD, hK⟩ := F.ex
  rcases hD with ⟨_, rfl⟩ | ⟨e, _⟩
  · refine ⟨fun s us ws X l1 l2 => ?_, fun r1 r2 => r1.append r2⟩
    match ws, l2 with
    | [w], _ => exact .of_eq (h kV doc pm an cdv ct us w l1)
  · exact absurd rfl e
end GB

/-! lists or tuples of ints: max, min, index, slices; len of a set -/
namespace GU
open PySem PySem.Spec PyProof.Rows L2 KA PH
section
variable {prog : Program} {w : World} {A : Around} {E : Value → Shared → Prop} {s : Shared} {l : Addr} {xs : Array (Int × Tok)}
theorem iter_intTup {Q : Value → Shared → Prop} (hl : s.heap.IsTuple l (intItems xs))
    (h : ∀ s₂ : Shared, s₂ = { s with heap := s.heap.push { cls := .type "tuple_iterator", data := .fields #[.ref l, .int 0 0] } } →
      (s₂.heap.IsTupleIter s.heap.objs.size l 0 ∧ s₂.heap.IsTuple l (intItems xs)) → (∀ b ∈ [s.heap.objs.size, l], b < s₂.heap.objs.size) → l ≠ s.heap.objs.size → Q (.ref s.heap.objs.size) s₂) :
    wpAny (model prog w) A (pyIter (.ref l)) Q E s := by
  have hlt : l < s.heap.objs.size := by obtain ⟨_, e, _⟩ := hl; exact Heap.lt_size e
  refine wpAny_pyIter_tuple hl (h _ rfl ⟨⟨_, Heap.get?_push_size _ rfl, rfl, rfl⟩, hl.push _⟩ (fun b hb => ?_) (Nat.ne_of_lt hlt))
  show b < (s.heap.push _).objs.size
  rw [Heap.size_push]
  rcases List.mem_cons.mp hb with rfl | hb
  · exact Nat.lt_succ_self _
  · rcases List.mem_cons.mp hb with rfl | hb
    · exact Nat.lt_succ_of_lt hlt
    · cases hb
theorem old_keptT {h' : Heap} (hk : ∀ b o, b ∉ [s.heap.objs.size] → (s.heap.push { cls := .type "tuple_iterator", data := .fields #[.ref l, .int 0 0] }).get? b = some o → h'.get? b = some o) :
    ∀ b o, s.heap.get? b = some o → h'.get? b = some o := fun b o e => by
  refine hk b o (fun hm => ?_) (Heap.get?_push_of_some _ e)
  rcases List.mem_cons.mp hm with e1 | hm
  · exact absurd (e1 ▸ Heap.lt_size e) (Nat.lt_irrefl _)
  · cases hm
theorem max_intTup {Q : Value → Shared → Prop} (hh : A.handled = none) (hl : s.heap.IsTuple l (intItems xs)) (hne : 0 < xs.size)
    (h : ∀ v h' tk, (intItems xs)[argBest (fun i j => decide (numAt xs i > numAt xs j)) (xs.size - 1)]? = some v → (∀ b o, s.heap.get? b = some o → h'.get? b = some o) → Q v { s with heap := h', toks := tk }) :
    wpAny (model prog w) A (call (.builtin "max") [.ref l]) Q E s := by
  refine call_max_walk (iter_intTup hl fun s₂ e st hfp hlI => ?_)
  subst e
  refine ⟨_, _, _, _, _, _, _, rfl, Walks.tuple (A := A.in1) hh _ l hlI (intItems xs), st, hfp, by simpa [intItems] using hne, CmpOf.ints_gt (numAt xs) (fun _ _ => intItems_at), fun v h' tk hP hk => ?_⟩
  exact h v h' tk (by simpa [intItems] using hP) (old_keptT hk)
theorem min_intTup {Q : Value → Shared → Prop} (hh : A.handled = none) (hl : s.heap.IsTuple l (intItems xs)) (hne : 0 < xs.size)
    (h : ∀ v h' tk, (intItems xs)[argBest (fun i j => decide (numAt xs i < numAt xs j)) (xs.size - 1)]? = some v → (∀ b o, s.heap.get? b = some o → h'.get? b = some o) → Q v { s with heap := h', toks := tk }) :
    wpAny (model prog w) A (call (.builtin "min") [.ref l]) Q E s := by
  refine call_min_walk (iter_intTup hl fun s₂ e st hfp hlI => ?_)
  subst e
  refine ⟨_, _, _, _, _, _, _, rfl, Walks.tuple (A := A.in1) hh _ l hlI (intItems xs), st, hfp, by simpa [intItems] using hne, CmpOf.ints_lt (numAt xs) (fun _ _ => intItems_at), fun v h' tk hP hk => ?_⟩
  exact h v h' tk (by simpa [intItems] using hP) (old_keptT hk)
end
section
variable {prog : Program} {w : World} {A : Around} {E : Value → Shared → Prop} {s : Shared} {l : Addr} {its : List Value} {ns : List Int} {Q : Value → Shared → Prop}
theorem max_rawT (hh : A.handled = none) (hl : IsTup s.heap l its.toArray) (hi : IntsAre its ns) (hne : 0 < ns.length)
    (h : ∀ h' tk M t', (∀ b o, s.heap.get? b = some o → h'.get? b = some o) → M ∈ ns → (∀ a, a ∈ ns → a ≤ M) → Q (.int M t') { s with heap := h', toks := tk }) : wpAny (model prog w) A (call (.builtin "max") [.ref l]) Q E s := by
  obtain ⟨xs, e⟩ := hi.allInts.items
  have hn : numsOf (intItems xs).toList = ns := by rw [← e]; exact hi.numsOf
  rw [nums_intItems] at hn
  subst hn
  rw [e] at hl
  have hsz : 0 < xs.size := by simpa using hne
  have hl2 : s.heap.IsTuple l (intItems xs) := by
    obtain ⟨o, ho, hc, n, hd⟩ := hl
    exact ⟨o, ho, hc, n, hd⟩
  refine max_intTup hh hl2 hsz fun v h' tk hv hk => ?_
  obtain ⟨t, rfl⟩ := intItems_at hv
  obtain ⟨h1, h2⟩ := argBest_gt (numAt xs) (xs.size - 1)
  refine h h' tk _ t hk ?_ fun a ha => ?_
  · rw [numAt_eq]; exact PySem.getD_mem (by rw [List.length_map, Array.length_toList]; omega)
  · obtain ⟨j, hj, rfl⟩ := mem_getD ha
    rw [List.length_map, Array.length_toList] at hj
    rw [← numAt_eq]; exact h2 j (by omega)
theorem min_rawT (hh : A.handled = none) (hl : IsTup s.heap l its.toArray) (hi : IntsAre its ns) (hne : 0 < ns.length)
    (h : ∀ h' tk M t', (∀ b o, s.heap.get? b = some o → h'.get? b = some o) → M ∈ ns → (∀ a, a ∈ ns → M ≤ a) → Q (.int M t') { s with heap := h', toks := tk }) : wpAny (model prog w) A (call (.builtin "min") [.ref l]) Q E s := by
  obtain ⟨xs, e⟩ := hi.allInts.items
  have hn : numsOf (intItems xs).toList = ns := by rw [← e]; exact hi.numsOf
  rw [nums_intItems] at hn
  subst hn
  rw [e] at hl
  have hsz : 0 < xs.size := by simpa using hne
  have hl2 : s.heap.IsTuple l (intItems xs) := by
    obtain ⟨o, ho, hc, n, hd⟩ := hl
    exact ⟨o, ho, hc, n, hd⟩
  refine min_intTup hh hl2 hsz fun v h' tk hv hk => ?_
  obtain ⟨t, rfl⟩ := intItems_at hv
  obtain ⟨h1, h2⟩ := argBest_lt (numAt xs) (xs.size - 1)
  refine h h' tk _ t hk ?_ fun a ha => ?_
  · rw [numAt_eq]; exact PySem.getD_mem (by rw [List.length_map, Array.length_toList]; omega)
  · obtain ⟨j, hj, rfl⟩ := mem_getD ha
    rw [List.length_map, Array.length_toList] at hj
    rw [← numAt_eq]; exact h2 j (by omega)
end
section
variable {X : Cx}
/-- one of two readings -/
theorem pe_either {e : Expr} {t u : TE} (h : PE X e t) (g : PE X e u) : PE X e (fun σ H Q => t σ H Q ∨ u σ H Q) :=
  ⟨fun pins s σ H Q I q => q.elim (h.run pins s σ H Q I) (g.run pins s σ H Q I)⟩
/-- max(xs), min(xs) of a list or a tuple of ints -/
def rMaxS (K : PySem.W.Frag) : List V → Hp → VK → Prop := fun vs H Q => ∃ (a : Addr) (ns : List Int), vs = [V.ref a] ∧ Sq K H a (ns.map V.int) ∧ 0 < ns.length ∧ ∀ m, m ∈ ns → (∀ y, y ∈ ns → y ≤ m) → Q (.int m) H
def rMinS (K : PySem.W.Frag) : List V → Hp → VK → Prop := fun vs H Q => ∃ (a : Addr) (ns : List Int), vs = [V.ref a] ∧ Sq K H a (ns.map V.int) ∧ 0 < ns.length ∧ ∀ m, m ∈ ns → (∀ y, y ∈ ns → m ≤ y) → Q (.int m) H
theorem cr_maxS (hc : X.calm = true) : CallR X (.builtin "max") (rMaxS X.K) := by
  intro pins s σ H vs us Q I r h
  obtain ⟨a, ns, rfl, hs | hs, hne, q⟩ := h
  · exact cr_max hc pins s σ H _ us Q I r ⟨a, ns, rfl, hs, hne, q⟩
  · obtain ⟨its, rv, hl, _⟩ := I.tuple hs
    rw [Vals.ref1 r]
    exact max_rawT (I.ok.hd hc) hl rv.ints hne fun h' tk m t' hk h1 h2 => ⟨.int _, H, I.kept hk, ⟨_, rfl⟩, q m h1 h2⟩
theorem cr_minS (hc : X.calm = true) : CallR X (.builtin "min") (rMinS X.K) := by
  intro pins s σ H vs us Q I r h
  obtain ⟨a, ns, rfl, hs | hs, hne, q⟩ := h
  · exact cr_min hc pins s σ H _ us Q I r ⟨a, ns, rfl, hs, hne, q⟩
  · obtain ⟨its, rv, hl, _⟩ := I.tuple hs
    rw [Vals.ref1 r]
    exact min_rawT (I.ok.hd hc) hl rv.ints hne fun h' tk m t' hk h1 h2 => ⟨.int _, H, I.kept hk, ⟨_, rfl⟩, q m h1 h2⟩
/-- xs[lo:hi] of a list or a tuple -/
def rSlS (K : PySem.W.Frag) : V → Option Int → Option Int → Hp → VK → Prop := fun x lo hi H Q => ∃ a xs, x = .ref a ∧ Sq K H a xs ∧ ∀ H' p, Same H H' → Sq K H' p (cutV xs lo hi) → Q (.ref p) H'
theorem cut_whole {xs : List V} {lo hi : Option Int} (h : HT.sIx xs.length 0 lo = 0 ∧ HT.sIx xs.length xs.length hi = xs.length) : cutV xs lo hi = xs := by
  unfold cutV
  rw [h.1, h.2, List.drop_zero, Nat.sub_zero, List.take_length]
theorem sl_S : SlR X (rSlS X.K) := by
  intro pins s σ H x v vl vu lo hi sl Q I rx hs pl pu h
  obtain ⟨a, xs, rfl, hS | hS, q⟩ := h
  · exact sl_list pins s σ H _ v vl vu lo hi sl Q I rx hs pl pu ⟨a, xs, rfl, hS, fun p np => q _ p (same_new np) (.inl (SqL.of upd_same))⟩
  · exact sl_tupA pins s σ H _ v vl vu lo hi sl Q I rx hs pl pu ⟨a, xs, rfl, hS, fun w => q H a (Same.refl H) (by rw [cut_whole w]; exact .inr hS), fun _ p np => q _ p (same_new np) (.inr (SqT.of upd_same))⟩
/-- xs.index(y) of ints -/
def rIdxL (K : PySem.W.Frag) : V → List V → Hp → VK → Prop := fun x xs H Q => ∃ (a : Addr) (ns : List Int) (y : Int) (j : Nat), x = V.ref a ∧ xs = [V.int y] ∧ SqL K H a (ns.map V.int) ∧ ns[j]? = some y ∧ (∀ m z, m < j → ns[m]? = some z → z ≠ y) ∧ Q (.int (j : Nat)) H
def rIdxT (K : PySem.W.Frag) : V → List V → Hp → VK → Prop := fun x xs H Q => ∃ (a : Addr) (ns : List Int) (y : Int) (j : Nat), x = V.ref a ∧ xs = [V.int y] ∧ SqT K H a (ns.map V.int) ∧ ns[j]? = some y ∧ (∀ m z, m < j → ns[m]? = some z → z ≠ y) ∧ Q (.int (j : Nat)) H
theorem flat_ints (ns : List Int) : (ns.map V.int).all flatV = true := by
  rw [List.all_map]
  exact List.all_eq_true.mpr fun _ _ => rfl
theorem mt_idxL : MtR X "list.index" (rIdxL X.K) := by
  intro pins s σ H x xs v us Q I rx rxs h
  obtain ⟨a, ns, y, j, rfl, rfl, hs, hy, hno, q⟩ := h
  refine mt_index pins s σ H _ _ v us Q I rx rxs ⟨a, ns.map V.int, .int y, j, .int y, rfl, rfl, hs, rfl, flat_ints ns, at_int hy, beq_self_eq_true y, fun m z hm hz => ?_, q⟩
  obtain ⟨r, hr, rfl⟩ := int_at hz
  exact beq_eq_false_iff_ne.mpr (hno m r hm hr)
theorem mt_idxT : MtR X "tuple.index" (rIdxT X.K) := by
  intro pins s σ H x xs v us Q I rx rs h
  obtain ⟨p, ys, z, j, rfl, rfl, hq, hy, hno, q⟩ := h
  cases rx
  obtain ⟨u, rfl, t, rfl⟩ := vals1 rs
  obtain ⟨its, r, pl, hz⟩ := I.tuple hq
  obtain ⟨⟨cls, dd, dt, sl⟩, ho, hc, n, hd⟩ := pl
  simp only at hc hd
  subst hc
  subst hd
  have hl : its.toArray.size = ys.length := by rw [List.size_toArray, ← r.length, List.length_map]
  have hj : j < its.toArray.size := by rw [hl]; exact (List.getElem?_eq_some_iff.mp hy).1
  have at' : ∀ (m : Nat) (hm : m < its.toArray.size), ∃ y t', ys[m]? = some y ∧ its.toArray[m] = Value.int y t' := fun m hm => by
    have hm' : m < ys.length := by rw [← hl]; exact hm
    obtain ⟨w, hw, t', hw'⟩ := r.get (i := m) (x := .int ys[m]) (by simp [hm'])
    refine ⟨ys[m], t', List.getElem?_eq_getElem hm', ?_⟩
    have e := (List.getElem?_eq_some_iff.mp hw).2
    rw [← hw', ← e]
    simp
  refine call_meets PySem.F.slot_tuple_index ⟨_, ho, rfl⟩ PySem.F.entry_tuple_index (PySem.F.args_tuple_index_2 _ _) (TI.tuple_indexAt p its.toArray n dd sl (.int z t) (eqU (.int z)) j hj ?_ ?_)
    ⟨ho, fun w hw => mem_eqAt (x := .int z) ⟨t, rfl⟩ rfl r (flat_ints ys) w (by simpa using hw), ⟨.int (j : Nat), H, I.tok _, ⟨_, rfl⟩, q⟩⟩
  · obtain ⟨y, t', h1, h2⟩ := at' j hj
    rw [hy] at h1
    cases h1
    rw [h2]
    show (z == z) = true
    exact beq_self_eq_true z
  · intro m hm hmj
    obtain ⟨y, t', h1, h2⟩ := at' m hm
    rw [h2]
    show (y == z) = false
    exact beq_eq_false_iff_ne.mpr (hno m y hmj h1)
/-- len(s) of a set of ints -/
def rLenSet (w : World) : List V → Hp → VK → Prop := fun vs H Q => ∃ (a : Addr) (S : Int → Bool) (n : Nat), vs = [V.ref a] ∧ H a = some (SetO w a S n) ∧ n < 2 ^ 40 ∧ ((∃ ks : List Int, ks.Nodup ∧ ks.length = n ∧ ∀ k, k ∈ ks ↔ S k = true) → Q (.int (n : Nat)) H)
theorem cr_lenSet : CallR X (.builtin "len") (rLenSet X.w) := by
  intro pins s σ H vs us Q I r h
  obtain ⟨a, S, n, rfl, ha, hn, q⟩ := h
  rw [Vals.ref1 r]
  obtain ⟨o, es, ep, t, ho, hex, hd, h1, h2, h3, h4, hf, hsz, _⟩ := setO_get I ha
  refine call_len_set ho hex hd hf (by omega) ⟨.int (n : Nat), H, I.tok _, ⟨_, by rw [hsz]⟩, q ⟨es.toList.map keyOf, h2, by rw [List.length_map, Array.length_toList, hsz], fun k => (h3 k).symm⟩⟩
end
end GU

/-! == and != of two instances by an own __eq__, both answers -/
namespace GN
open PySem PySem.Spec PyProof.Rows L2
section
variable {M : Model} {prog : Program} {w : World} {A : Around} {E : Value → Shared → Prop} {s : Shared} {K : PySem.W.Frag} {x C L f : Addr} {ox : Obj} {od : Option Obj}
theorem entry_ne {y : Value} (X : K.In s.heap) (I : PySem.W.InstAt s.heap x ox C od) (hs : PySem.W.findIn K (.ref C) "__eq__" = some (some (.ref f))) (hf : PySem.W.isFn K (.ref f) = true) (hu : A.units < cLine) {Q : Fin → Shared → Prop}
    (hcall : wpAny (model prog w) A (call (.ref f) [.ref x, y]) (fun v s' => ∃ b, v = .bool b ∧ Q (.done (.ret (.bool (!b)))) s') E s) :
    wpAny (model prog w) A (Builtin.«object.__ne__» ⟨[.ref x, y], []⟩) Q E s := by
  unfold Builtin.«object.__ne__»
  repeat (first
    | with_reducible refine wpAny_cRoomFor hu ?_
    | (refine wpAny_bind (m := callSpecialIfBound? (.ref x) (Str.ofString "__eq__") [y])
        (PySem.W.ifBound_K X I hs hf (wpAny_mono hcall (fun r s' hr => by
          obtain ⟨b, rfl, hq⟩ := hr
          repeat (first | exact hq | exact wpAny_pure hq | exact wpAny_truthy_bool hq | (refine wpAny_bind (m := truthy (.bool _)) (wpAny_truthy_bool ?_)) | wp_step)) fun _ _ e => e)))
    | wp_step)
theorem ifBound_ne {args : List Value} {Q : Option Value → Shared → Prop} (X : K.In s.heap) (I : PySem.W.InstAt s.heap x ox C od) (hs : PySem.W.findIn K (.ref C) "__ne__" = some (some (.builtin "object.__ne__")))
    (h : wpAny M A (call (.builtin "object.__ne__") (.ref x :: args)) (fun v => Q (some v)) E s) : wpAny M A (callSpecialIfBound? (.ref x) "__ne__" args) Q E s := by
  simp only [callSpecialIfBound?, bindSpecialIfBound?]
  refine wpAny_holding (wpAny_bind (wpAny_bind (wpAny_bind (I.type.here ((PySem.W.looks_findIn X hs).here ?_)))))
  refine wpAny_bind (wpAny_askSetting (wpAny_ite ?_))
  have fin : wpAny M A (call (.builtin "object.__ne__") ([.ref x] ++ args) >>= fun v => pure (some v)) Q E s := wpAny_bind (wpAny_mono h (fun v s' h' => wpAny_pure h') fun _ _ h' => h')
  split
  · exact wpAny_bind (wpAny_of_eq (F.cmp_object.ne.bind _) (wpAny_pure (by exact fin)))
  · exact wpAny_tryCatch (wpAny_bind (wpAny_of_eq (F.cmp_object.ne.bind _) (wpAny_pure (by exact fin))))
theorem rc_ne {b tb : Value} {Q : Value → Shared → Prop} (hu : A.units + 1 < cLine) (X : K.In s.heap) (I : PySem.W.InstAt s.heap x ox C od) (hb : PySem.W.Looks (model prog w) s.heap (typeOf b) tb) (hn : PySem.W.notFirst K C tb = true)
    (hm : PySem.W.mroIn K C (.type "object") = some true) (hs : PySem.W.findIn K (.ref C) "__eq__" = some (some (.ref f))) (hf : PySem.W.isFn K (.ref f) = true) (hne : PySem.W.findIn K (.ref C) "__ne__" = some (some (.builtin "object.__ne__")))
    (h : wpAny (model prog w) A.in1 (call (.ref f) [.ref x, b]) (fun v s' => ∃ r, v = .bool r ∧ Q (.bool (!r)) s') E s) : wpAny (model prog w) A (richCompare .NotEq (.ref x) b) Q E s := by
  have one : wpAny (model prog w) A (tryCompare (.ref x) "__ne__" b) (fun r s' => ∃ v, r = some v ∧ Q v s') E s := by
    unfold tryCompare
    refine wpAny_bind (ifBound_ne X I hne (wpAny_call (codeAny_call_builtin F.cmp_object.ne.plain F.cmpEntry_ne (PySem.W.check_slot F.cmpKind_ne F.cmpSplit_ne (I.type.andThen (PySem.W.looks_mroIn X hm)) (F.cmpArgs_ne _ _)
      (entry_ne (A := A.in1) X I hs hf hu (wpAny_mono h (fun v s' hv => ?_) fun _ _ e => e))))))
    obtain ⟨r, rfl, hq⟩ := hv
    first
      | exact ⟨r, rfl, wpAny_pure ⟨_, rfl, hq⟩⟩
      | exact ⟨r, rfl, wpAny_pure (wpAny_pure ⟨_, rfl, hq⟩)⟩
      | exact ⟨r, rfl, _, rfl, hq⟩
  unfold richCompare
  simp only [oneThing_ref]
  refine wpAny_holding (wpAny_bind (wpAny_cRoomFor (Nat.lt_of_succ_lt hu) ?_))
  refine wpAny_bind (I.type.here (wpAny_bind (hb.here ?_)))
  split
  · rename_i q
    have e : PySem.W.subIn K tb (.ref C) = some false := by
      rcases Bool.or_eq_true_iff.mp hn with e | e
      · rw [beq_iff_eq.mp e] at q; simp at q
      · exact beq_iff_eq.mp e
    refine wpAny_bind ((PySem.W.looks_subIn X e).here ?_)
    simp only [Bool.false_eq_true, if_false]
    refine wpAny_bind (wpAny_mono one (fun r s' z => ?_) fun _ _ e => e)
    obtain ⟨v, rfl, hq⟩ := z
    exact wpAny_pure hq
  · refine wpAny_bind (wpAny_pure ?_)
    simp only [Bool.false_eq_true, if_false]
    refine wpAny_bind (wpAny_mono one (fun r s' z => ?_) fun _ _ e => e)
    obtain ⟨v, rfl, hq⟩ := z
    exact wpAny_pure hq
end
section
variable {X : Cx} {n : Nat} {CX : CXT} {C f : Addr} {fd : FuncData} {ps : List Str} {sp : Sp} {E : XK}
/-- a def of the text, called from below -/
theorem call_own (F : FnOk X.prog X.w X.K X.mg X.base CX n f fd ps sp) (hb : Binds X.K fd ps []) (hx : Passes CX X E) {A : Around} (sb : Sub X n A) {pins : List (Addr × Obj)} {σ : L2.St} {H : Hp} {s : Shared} (I : Inv X pins σ H s) {vs : List V} {us : List Value} (r2 : Vals vs us) {Q : VK} (hsp : sp vs H Q E) :
    wpAny (model X.prog X.w) A (call (.ref f) us) (fun v s' => ∃ z H', Inv X pins σ H' s' ∧ RelV z v ∧ Q z H') X.xe s := by
  have e0 : Env0 X.prog X.w X.K X.mg X.base A X.stack s H := by
    have e := I.env0
    exact ⟨by rw [sb.fr]; exact e.frames, e.mod, e.bs, e.bsz, e.funs, e.frf, e.hok, e.bare⟩
  have hl := F.len _ _ _ _ hsp
  refine wpAny_call (codeAny_mono (F.run A X.stack s H ⟨us, []⟩ us vs _ E sb.room e0 (by
    have := hb s us I.kIn (by rw [List.append_nil, ← r2.length]; exact hl)
    simpa using this) r2 hsp) fun r s' hq => ?_)
  cases r with
  | error e => exact hx pins σ H s e s' I hq
  | ok fl =>
    cases fl with
    | ret w =>
      obtain ⟨z, H', I', rz, ez⟩ := I.after hq
      exact ⟨z, H', I', rz, ez⟩
    | next => exact False.elim hq
    | brk => exact False.elim hq
    | cont => exact False.elim hq
/-- what == (neg: !=) of two instances of the class asks -/
def rOwn (C : Addr) (sp : Sp) (E : XK) (neg : Bool) : R2 := fun x y H Q => ∃ a b dx dy fs gs, x = .ref a ∧ y = .ref b ∧ H a = some (.ins C dx fs) ∧ H b = some (.ins C dy gs) ∧ sp [.ref a, .ref b] H (fun v H' => ∃ r, v = .bl r ∧ Q (.bl (neg != r)) H') E
theorem op_eqOwn (F : FnOk X.prog X.w X.K X.mg X.base CX n f fd ps sp) (hr : Room n X.A) (hs : PySem.W.findIn X.K (.ref C) "__eq__" = some (some (.ref f))) (hf : PySem.W.isFn X.K (.ref f) = true) (hb : Binds X.K fd ps []) (hx : Passes CX X E) : OpR X (compareOp .Eq) (rOwn C sp E false) := by
  intro pins s σ H x y v u Q I rx ry hq
  obtain ⟨a, b, dx, dy, fs, gs, rfl, rfl, ha, hb', hsp⟩ := hq
  cases rx
  cases ry
  obtain ⟨mA, J, _⟩ := ins_get I.hok ha
  obtain ⟨mB, J', _⟩ := ins_get I.hok hb'
  obtain ⟨od, J, _⟩ := J.look
  obtain ⟨od', J', _⟩ := J'.look
  have sb : Sub X n X.A := ⟨hr, rfl⟩
  have r2 : Vals [V.ref a, V.ref b] [Value.ref a, Value.ref b] := .cons rfl (.cons rfl .nil)
  obtain ⟨m, hF⟩ := I.fr
  show wpAny (model X.prog X.w) X.A (richCompare .Eq _ _) (EP X pins σ Q) X.xe s
  refine PySem.W.cmp_K (op := .Eq) (tb := .ref C) sb.room.units0 hF I.ok.mod.kin J J'.type (by simp [PySem.W.notFirst]) hs hf ?_
  refine wpAny_mono (call_own F hb hx sb I r2 hsp) (fun v s' hv => ?_) fun _ _ e => e
  obtain ⟨z, H', I', rz, r, rfl, q⟩ := hv
  cases rz
  exact ⟨.bl r, H', I', rfl, by cases r <;> exact q⟩
theorem op_neOwn (F : FnOk X.prog X.w X.K X.mg X.base CX n f fd ps sp) (hr : Room (n + 1) X.A) (hs : PySem.W.findIn X.K (.ref C) "__eq__" = some (some (.ref f))) (hf : PySem.W.isFn X.K (.ref f) = true) (hm : PySem.W.mroIn X.K C (.type "object") = some true)
    (hne : PySem.W.findIn X.K (.ref C) "__ne__" = some (some (.builtin "object.__ne__"))) (hb : Binds X.K fd ps []) (hx : Passes CX X E) : OpR X (compareOp .NotEq) (rOwn C sp E true) := by
  intro pins s σ H x y v u Q I rx ry hq
  obtain ⟨a, b, dx, dy, fs, gs, rfl, rfl, ha, hb', hsp⟩ := hq
  cases rx
  cases ry
  obtain ⟨mA, J, _⟩ := ins_get I.hok ha
  obtain ⟨mB, J', _⟩ := ins_get I.hok hb'
  obtain ⟨od, J, _⟩ := J.look
  obtain ⟨od', J', _⟩ := J'.look
  have sb : Sub X (n + 1) X.A := ⟨hr, rfl⟩
  have r2 : Vals [V.ref a, V.ref b] [Value.ref a, Value.ref b] := .cons rfl (.cons rfl .nil)
  show wpAny (model X.prog X.w) X.A (richCompare .NotEq _ _) (EP X pins σ Q) X.xe s
  refine rc_ne (tb := .ref C) sb.in1.room.units0 I.kIn J J'.type (by simp [PySem.W.notFirst]) hm hs hf hne ?_
  refine wpAny_mono (call_own F hb hx sb.in1 I r2 hsp) (fun v s' hv => ?_) fun _ _ e => e
  obtain ⟨z, H', I', rz, r, rfl, q⟩ := hv
  cases rz
  exact ⟨r, rfl, .bl (!r), H', I', rfl, by cases r <;> exact q⟩
end
end GN

set_option pp.maxSteps 900
/-! k30: the program's defs over values of any kind -/
namespace M3N
open PySem PySem.Spec PyProof.Rows L2 KA KD PH PM PA PB PC RM RN RS QE QF QG DV
abbrev sNu : Stmt := topS 6
abbrev sRd : Stmt := topS 7
abbrev sRg : Stmt := topS 8
abbrev sAl : Stmt := topS 21
abbrev sCO2 : Stmt := topS 22
abbrev sIR2 : Stmt := topS 27
abbrev sIC : Stmt := topS 28
theorem scNu : FnScope ["value"] ["value"] (defScope sNu) := ⟨rfl, rfl, rfl, by decide +kernel, rfl, by decide +kernel, by decide +kernel⟩
theorem scRd : FnScope ["value"] ["value"] (defScope sRd) := ⟨rfl, rfl, rfl, by decide +kernel, rfl, by decide +kernel, by decide +kernel⟩
theorem scRg : FnScope ["value", "low", "high"] ["value"] (defScope sRg) := ⟨rfl, rfl, rfl, by decide +kernel, rfl, by decide +kernel, by decide +kernel⟩
theorem scAl : FnScope ["points"] ["points"] (defScope sAl) := ⟨rfl, rfl, rfl, by decide +kernel, rfl, by decide +kernel, by decide +kernel⟩
theorem scCO2 : FnScope ["cycles", "rest", "whole", "cycle"] ["cycles", "rest"] (defScope sCO2) := ⟨rfl, rfl, rfl, by decide +kernel, rfl, by decide +kernel, by decide +kernel⟩
theorem scIR2 : FnScope ["value", "point"] ["value"] (defScope sIR2) := ⟨rfl, rfl, rfl, by decide +kernel, rfl, by decide +kernel, by decide +kernel⟩
theorem scIC : FnScope ["cycles", "rest", "cycle"] ["cycles", "rest"] (defScope sIC) := ⟨rfl, rfl, rfl, by decide +kernel, rfl, by decide +kernel, by decide +kernel⟩
theorem pe_gc {X : Cx} {x : Str} {v : V} {pos : Pos} (hg : Gl X x) (h : ∃ u, X.mg x = some u ∧ RelV v u) (hd : (x == ("__debug__" : Str)) = false := by decide) : PE X (.Name x pos) (tC v) := by
  obtain ⟨u, h1, h2⟩ := h
  exact pe_glob hg h1 h2 hd
def isNum : PyData → Bool
  | .int _ => true | _ => false
theorem isT_tup {d : PyData} (h : isT d = true) : ∃ ds, d = .tuple ds := by
  cases d with
  | tuple ds => exact ⟨ds, rfl⟩
  | _ => exact absurd h (by simp [isT])
def isRd : PyData → Bool
  | .int i => decide ((i.natAbs : Int) ≤ 1000000000) | _ => false
def isRg : PyData → Bool
  | .tuple [.int a, .int b] => isRd (.int a) && isRd (.int b) && decide (a < b) | _ => false
theorem num_int {d : PyData} (h : isNum d = true) : ∃ i, d = .int i := by
  cases d with
  | int i => exact ⟨i, rfl⟩
  | _ => exact absurd h (by simp [isNum])
theorem rd_int {d : PyData} (h : isRd d = true) : ∃ i, d = .int i := by
  cases d with
  | int i => exact ⟨i, rfl⟩
  | _ => exact absurd h (by simp [isRd])
theorem rg_pair {d : PyData} (h : isRg d = true) : ∃ a b, d = .tuple [.int a, .int b] ∧ a < b := by
  unfold isRg at h
  split at h
  · rename_i a b
    exact ⟨a, b, rfl, by simp only [Bool.and_eq_true, decide_eq_true_eq] at h; exact h.2⟩
  · cases h
/-- the ints of readings -/
theorem rd_all : ∀ {ds : List PyData}, ds.all isRd = true → ∃ ns : List Int, ds = dInts ns
  | [], _ => ⟨[], rfl⟩
  | d :: ds, h => by
    rw [List.all_cons, Bool.and_eq_true] at h
    obtain ⟨i, rfl⟩ := rd_int h.1
    obtain ⟨ns, rfl⟩ := rd_all h.2
    exact ⟨i :: ns, rfl⟩
theorem rg_all : ∀ {ds : List PyData}, ds.all isRg = true → ∃ cs : List (Int × Int), ds = dPairs cs ∧ ∀ r ∈ cs, r.1 < r.2
  | [], _ => ⟨[], rfl, fun _ z => nomatch z⟩
  | d :: ds, h => by
    rw [List.all_cons, Bool.and_eq_true] at h
    obtain ⟨a, b, rfl, hab⟩ := rg_pair h.1
    obtain ⟨cs, rfl, hc⟩ := rg_all h.2
    exact ⟨(a, b) :: cs, rfl, fun r hr => by
      rcases List.mem_cons.mp hr with rfl | hr
      · exact hab
      · exact hc r hr⟩
theorem dv_ints_of {f : Addr} {H : Hp} : ∀ {ns : List Int} {xs : List V}, DvAll f H xs (dInts ns) → xs = ns.map V.int
  | [], _, h => by cases h; rfl
  | n :: ns, _, h => by
    cases h with
    | cons h1 h2 =>
      cases h1
      rw [dv_ints_of h2]
      rfl
theorem dv_pairs_of {f : Addr} {H : Hp} : ∀ {rs : List (Int × Int)} {xs : List V}, DvAll f H xs (dPairs rs) → PairsAt H xs rs
  | [], _, h => by cases h; trivial
  | r :: rs, _, h => by
    cases h with
    | cons h1 h2 =>
      cases h1 with
      | tup n e a =>
        cases a with
        | cons a1 a2 =>
          cases a1
          cases a2 with
          | cons a3 a4 =>
            cases a3
            cases a4
            exact ⟨⟨_, rfl, e⟩, dv_pairs_of h2⟩
def leftB (ns : List Int) : Bool := decide (tp ns = ns) && (plc ns).isEmpty
theorem run_nil {p q : List Int} (h : Run p [] q) : p = q := by cases h; rfl
theorem left_iff {ns rs : List Int} {cs : List (Int × Int)} (r : Run (tp ns) cs rs) (n : NF rs) : leftB ns = decide (rs = ns) := by
  unfold leftB
  by_cases e : rs = ns
  · subst e
    have l1 := r.len
    have l2 := tp_len rs
    have c0 : cs = [] := List.length_eq_zero_iff.mp (by omega)
    subst c0
    have e2 : tp rs = rs := run_nil r
    rw [decide_eq_true e2, plc_of_nf n]
    simp
  · rw [decide_eq_false e]
    by_cases e2 : tp ns = ns
    · cases hp : plc ns with
      | cons _ _ => simp
      | nil =>
        have nf := nf_of_plc hp
        rw [e2] at r
        cases r with
        | nil => exact absurd rfl e
        | cons s _ => exact absurd s (nf _ _)
    · rw [decide_eq_false e2]
      rfl
def intsOf : List PyData → List Int
  | [] => [] | .int i :: ds => i :: intsOf ds | _ :: ds => intsOf ds
theorem intsOf_ints : ∀ ns : List Int, intsOf (dInts ns) = ns
  | [] => rfl
  | n :: ns => by show n :: intsOf (dInts ns) = _; rw [intsOf_ints ns]
def pairsOf : List PyData → List (Int × Int)
  | [] => [] | .tuple [.int a, .int b] :: ds => (a, b) :: pairsOf ds | _ :: ds => pairsOf ds
theorem pairsOf_pairs : ∀ cs : List (Int × Int), pairsOf (dPairs cs) = cs
  | [] => rfl
  | n :: ns => by show (n.1, n.2) :: pairsOf (dPairs ns) = _; rw [pairsOf_pairs ns]
def restB : PyData → Bool
  | .tuple ds => ds.all isRd && leftB (intsOf ds) | _ => false
/-- whether all cycles lie in the range of the rest -/
def inB (cs : List (Int × Int)) (ns : List Int) : Bool := cs.all fun r => ns.any (fun x => decide (x ≤ r.1)) && ns.any (fun x => decide (r.2 ≤ x))
def countB : PyData → PyData → Bool
  | .tuple ds, e => ds.all isRg && restB e && (match e with | .tuple es => inB (pairsOf ds) (intsOf es) | _ => false) | _, _ => false
/-- no more than 2000 items -/
def Wd : PyData → Prop
  | .tuple ds => ds.length ≤ 2000 | _ => True
theorem ev_ints : ∀ as bs : List Int, PyData.eqvAll (dInts as) (dInts bs) = decide (as = bs)
  | [], [] => by simp [dInts, PyData.eqvAll]
  | [], _ :: _ => by simp [dInts, PyData.eqvAll]
  | _ :: _, [] => by simp [dInts, PyData.eqvAll]
  | a :: as, b :: bs => by
    have ih := ev_ints as bs
    show (PyData.eqv (.int a) (.int b) && PyData.eqvAll (dInts as) (dInts bs)) = _
    rw [ih]
    simp [PyData.eqv, Bool.beq_eq_decide_eq]
theorem ev_lst (as bs : List Int) : PyData.eqv (.list (dInts as)) (.list (dInts bs)) = decide (as = bs) := by
  rw [← ev_ints]; simp [PyData.eqv]
theorem pr_at {H : Hp} : ∀ {xs : List V} {cs : List (Int × Int)} {i : Nat} {x : V}, PairsAt H xs cs → xs[i]? = some x → ∃ r p, cs[i]? = some r ∧ x = .ref p ∧ H p = some (.tup [.int r.1, .int r.2])
  | [], [], _, _, _, e => by simp at e
  | x :: xs, r :: cs, 0, _, ⟨⟨p, h1, h2⟩, h3⟩, e => by
    simp only [List.getElem?_cons_zero, Option.some.injEq] at e
    subst e
    exact ⟨r, p, rfl, h1, h2⟩
  | x :: xs, r :: cs, i + 1, _, ⟨_, h3⟩, e => pr_at (i := i) h3 e
  | [], _ :: _, _, _, h, _ => h.elim
  | _ :: _, [], _, _, h, _ => h.elim
theorem any_min {ns : List Int} {m c : Int} (h1 : m ∈ ns) (h2 : ∀ y, y ∈ ns → m ≤ y) : ns.any (fun x => decide (x ≤ c)) = decide (m ≤ c) := by
  by_cases h : m ≤ c
  · rw [decide_eq_true h]; exact List.any_eq_true.mpr ⟨m, h1, decide_eq_true h⟩
  · rw [decide_eq_false h]
    cases e : ns.any fun x => decide (x ≤ c) with
    | false => rfl
    | true =>
      obtain ⟨x, hx, hc⟩ := List.any_eq_true.mp e
      have := of_decide_eq_true hc
      have := h2 x hx
      omega
theorem any_max {ns : List Int} {m c : Int} (h1 : m ∈ ns) (h2 : ∀ y, y ∈ ns → y ≤ m) : ns.any (fun x => decide (c ≤ x)) = decide (c ≤ m) := by
  by_cases h : c ≤ m
  · rw [decide_eq_true h]; exact List.any_eq_true.mpr ⟨m, h1, decide_eq_true h⟩
  · rw [decide_eq_false h]
    cases e : ns.any fun x => decide (c ≤ x) with
    | false => rfl
    | true =>
      obtain ⟨x, hx, hc⟩ := List.any_eq_true.mp e
      have := of_decide_eq_true hc
      have := h2 x hx
      omega
theorem inB_take {cs : List (Int × Int)} {ns : List Int} {i : Nat} {r : Int × Int} (e : cs[i]? = some r) : inB (cs.take (i + 1)) ns = (inB (cs.take i) ns && (ns.any (fun x => decide (x ≤ r.1)) && ns.any (fun x => decide (r.2 ≤ x)))) := by
  unfold inB
  rw [List.take_add_one, e, Option.toList_some, List.all_append, List.all_cons, List.all_nil, Bool.and_true]
theorem all_take {f : PyData → Bool} {ds : List PyData} {i : Nat} {d : PyData} (e : ds[i]? = some d) : (ds.take (i + 1)).map f = (ds.take i).map f ++ [f d] := by
  rw [List.take_add_one, e, Option.toList_some, List.map_append]
  rfl
theorem all_id {f : PyData → Bool} (ds : List PyData) : (ds.map f).all id = ds.all f := by
  rw [List.all_map]
  rfl
section
variable {P : Program} {w : World} {K : PySem.W.Frag} {mg : Str → Option Value} {base : Heap}
def spNu : Sp := fun vs H Q _ => ∃ (v : V) (g : Addr) (d : PyData), vs = [v] ∧ Dv g H v d ∧ Q (.bl (isNum d)) H
theorem ok_nu {f : Addr} {fd : FuncData} {k : Nat} (F : Fun K "is_number" "is_number" sNu f fd) (ms : mg "isinstance" = none) (mi : mg "int" = none) (mb : mg "bool" = none) : FnOk P w K mg base CX0 (k + 1) f fd ["value"] spNu := by
  refine F.ok scNu (fun vs H Q E h => ?_) (fun cdv A outer s H vs Q E hr h => ?_)
  · obtain ⟨v, g, d, rfl, hd, hq⟩ := h
    rfl
  · obtain ⟨v, g, d, rfl, hd, hq⟩ := h
    refine ⟨_, (pss_one (ps_ret (pe_and (pe_callB call_isi (by rfl) ms (by decide +kernel) (pa_cons (pv 0) (pa_cons (pe_bltn (v := .ty "int") (by rfl) mi (by decide +kernel) rfl) pa_nil))) (pe_one (pe_not (pe_callB call_isi (by rfl) ms (by decide +kernel) (pa_cons (pv 0) (pa_cons (pe_bltn (v := .ty "bool") (by rfl) mb (by decide +kernel) rfl) pa_nil)))))))), ?_⟩
    refine ⟨v, rfl, v, .ty "int", _, .type "int", _, rfl, .ty "int", hd.ty, kit_i d, _, rfl, ?_⟩
    cases hi : isI d with
    | false =>
      rw [show isNum d = false by cases d <;> simp_all [isI, isNum]] at hq
      exact iteF hq
    | true =>
      refine iteT ⟨v, rfl, v, .ty "bool", _, .type "bool", _, rfl, .ty "bool", hd.ty, kit_b d, _, rfl, ?_⟩
      rw [show isNum d = !isB d by cases d <;> simp_all [isI, isB, isNum]] at hq
      exact hq
def spRd : Sp := fun vs H Q _ => ∃ (v : V) (g : Addr) (d : PyData), vs = [v] ∧ Dv g H v d ∧ Q (.bl (isRd d)) H
theorem ok_rd {f : Addr} {fd : FuncData} {fNU : Addr} {dNU : FuncData} {k : Nat} (F : Fun K "is_reading" "is_reading" sRd f fd) (GNU : FnOk P w K mg base CX0 (k + 1) fNU dNU ["value"] spNu) (gNU : mg "is_number" = some (.ref fNU)) (kNU : PySem.W.keepIn K (.ref fNU) = true) (bNU : Binds K dNU ["value"] []) (ma : mg "abs" = none) (gL : ∃ u, mg "LIMIT" = some u ∧ RelV (.int 1000000000) u) : FnOk P w K mg base CX0 (k + 2) f fd ["value"] spRd := by
  refine F.ok scRd (fun vs H Q E h => ?_) (fun cdv A outer s H vs Q E hr h => ?_)
  · obtain ⟨v, g, d, rfl, hd, hq⟩ := h
    rfl
  · obtain ⟨v, g, d, rfl, hd, hq⟩ := h
    refine ⟨_, (pss_one (ps_ret (pe_and (pe_call GNU hr (by rfl) gNU kNU bNU .nil pass0 (pa_cons (pv 0) pa_nil)) (pe_one (pe_cmpR op_le (pe_callB call_abs (by rfl) ma (by decide +kernel) (pa_cons (pv 0) pa_nil)) (pe_gc (v := .int 1000000000) (by rfl) gL) (nomark _)))))), ?_⟩
    refine ⟨v, rfl, v, g, d, rfl, hd, _, rfl, ?_⟩
    cases hn : isNum d with
    | false =>
      rw [show isRd d = false by cases d <;> simp_all [isRd, isNum]] at hq
      exact iteF hq
    | true =>
      obtain ⟨i, rfl⟩ := num_int hn
      cases hd
      refine iteT ⟨.int i, rfl, _, rfl, _, _, rfl, rfl, ?_⟩
      show Q (V.bl (decide _)) H
      rw [abs_i]
      exact hq
def spRg : Sp := fun vs H Q _ => ∃ (v : V) (g : Addr) (d : PyData), vs = [v] ∧ Dv g H v d ∧ Q (.bl (isRg d)) H
theorem ok_rg {f : Addr} {fd : FuncData} {fRD : Addr} {dRD : FuncData} {k : Nat} (F : Fun K "is_range" "is_range" sRg f fd) (GRD : FnOk P w K mg base CX0 (k + 2) fRD dRD ["value"] spRd) (gRD : mg "is_reading" = some (.ref fRD)) (kRD : PySem.W.keepIn K (.ref fRD) = true) (bRD : Binds K dRD ["value"] []) (ms : mg "isinstance" = none) (mt : mg "tuple" = none) (ml : mg "len" = none) : FnOk P w K mg base CX0 (k + 3) f fd ["value"] spRg := by
  refine F.ok scRg (fun vs H Q E h => ?_) (fun cdv A outer s H vs Q E hr h => ?_)
  · obtain ⟨v, g, d, rfl, hd, hq⟩ := h
    rfl
  · obtain ⟨v, g, d, rfl, hd, hq⟩ := h
    refine ⟨_, (pss_cons (ps_if (PW.pt (pw_or (pt_not (pt_val (pe_callB call_isi (by rfl) ms (by decide +kernel) (pa_cons (pv 0) (pa_cons (pe_bltn (v := .ty "tuple") (by rfl) mt (by decide +kernel) rfl) pa_nil))))) (pw_or1 (pt_cmpR op_ne (pe_callB call_len_seq (by rfl) ml PySem.boot_len (pa_cons (pv 0) pa_nil)) pe_int (nomark _))))) (pss_one (ps_ret pe_bl)) pss_nil)
      (pss_cons (ps_asg (pv 0) (pg_tup rfl (pgs_cons (pg_name (i := 1) scRg.nd rfl (.inl rfl)) (pgs_cons (pg_name (i := 2) scRg.nd rfl (.inl rfl)) pgs_nil))))
      (pss_one (ps_ret (pe_and (pe_call GRD hr (by rfl) gRD kRD bRD .nil pass0 (pa_cons (pv 1) pa_nil)) (pe_and (pe_call GRD hr (by rfl) gRD kRD bRD .nil pass0 (pa_cons (pv 2) pa_nil)) (pe_one (pe_cmpR op_lt (pv 1) (pv 2) (nomark _))))))))), ?_⟩
    refine ⟨v, rfl, v, .ty "tuple", _, .type "tuple", _, rfl, .ty "tuple", hd.ty, kit_t d, _, rfl, ?_⟩
    cases ht : isT d with
    | false =>
      rw [show isRg d = false by cases d <;> simp_all [isRg, isT]] at hq
      exact iteT (iteT hq)
    | true =>
      obtain ⟨ds, rfl⟩ := isT_tup ht
      cases hd with
      | @tup a xs _ hn e da =>
        refine iteF ⟨.ref a, rfl, _, _, rfl, .inr (SqT.of e), rfl, _, rfl, ?_⟩
        by_cases hl : ds.length = 2
        · have hl2 : xs.length = 2 := by rw [da.length]; exact hl
          have e2 : decide (V.int (xs.length : Int) = V.int 2) = true := decide_eq_true (by rw [hl2]; rfl)
          rw [e2]
          refine iteF ?_
          obtain ⟨x, y, rfl⟩ : ∃ x y, xs = [x, y] := by
            match xs, hl2 with
            | [x, y], _ => exact ⟨x, y, rfl⟩
          obtain ⟨d1, d2, rfl⟩ : ∃ x y, ds = [x, y] := by
            match ds, hl with
            | [x, y], _ => exact ⟨x, y, rfl⟩
          cases da with
          | cons h1 da =>
            cases da with
            | cons h2 da =>
              cases da
              refine ⟨.ref a, rfl, a, [x, y], rfl, SqT.of e, rfl, x, _, rfl, y, _, rfl, rfl, ?_⟩
              refine ⟨x, rfl, x, g, d1, rfl, h1, _, rfl, ?_⟩
              cases r1 : isRd d1 with
              | false =>
                rw [show isRg (.tuple [d1, d2]) = false by unfold isRg; split <;> simp_all] at hq
                exact iteF hq
              | true =>
                refine iteT ⟨y, rfl, y, g, d2, rfl, h2, _, rfl, ?_⟩
                cases r2 : isRd d2 with
                | false =>
                  rw [show isRg (.tuple [d1, d2]) = false by unfold isRg; split <;> simp_all] at hq
                  exact iteF hq
                | true =>
                  obtain ⟨i, rfl⟩ := rd_int r1
                  obtain ⟨j, rfl⟩ := rd_int r2
                  cases h1
                  cases h2
                  rw [show isRg (.tuple [.int i, .int j]) = decide (i < j) by show (_ && _ && _) = _; rw [r1, r2]; rfl] at hq
                  exact iteT ⟨.int i, rfl, .int j, rfl, _, _, rfl, rfl, hq⟩
        · have e2 : decide (V.int (xs.length : Int) = V.int 2) = false := decide_eq_false fun z => hl (by have := V.int.inj z; rw [← da.length]; omega)
          rw [e2]
          rw [show isRg (.tuple ds) = false by unfold isRg; split <;> simp_all] at hq
          exact iteT hq
def spAl : Sp := fun vs H Q _ => ∃ (a : Addr) (ns : List Int), vs = [.ref a] ∧ H a = some (.tup (ns.map V.int)) ∧ ns.length ≤ 2000 ∧ ∀ H', Same H H' → Q (.bl (leftB ns)) H'
theorem ok_al {f : Addr} {fd : FuncData} {fCN : Addr} {dCN : FuncData} {k : Nat} (F : Fun K "are_left" "are_left" sAl f fd) (GCN : FnOk P w K mg base CX0 (k + 4) fCN dCN ["load"] (spCo K)) (gCN : mg "_counted" = some (.ref fCN)) (kCN : PySem.W.keepIn K (.ref fCN) = true) (bCN : Binds K dCN ["load"] []) (mt : mg "list" = none) : FnOk P w K mg base CX0 (k + 5) f fd ["points"] spAl := by
  refine F.ok scAl (fun vs H Q E h => ?_) (fun cdv A outer s H vs Q E hr h => ?_)
  · obtain ⟨a, ns, rfl, ha, hl, hq⟩ := h
    rfl
  · obtain ⟨a, ns, rfl, ha, hl, hq⟩ := h
    refine ⟨_, (pss_one (ps_ret (pe_cmpR (op_eqD hr.units) (pe_ix ix_tup (pe_call GCN hr (by rfl) gCN kCN bCN .nil pass0 (pa_cons (pv 0) pa_nil)) pe_int (fun _ _ => rfl)) (pe_callTy call_list_of (by rfl) mt (by decide +kernel) (pa_cons (pv 0) pa_nil)) (nomark _)))), ?_⟩
    refine ⟨.ref a, rfl, a, ns, rfl, .inr (SqT.of ha), by omega, fun H' p c r xs cs rs s np hp hc pr hr' run nf => ?_⟩
    refine ⟨p, _, _, .ref r, rfl, rfl, SqT.of hp, rfl, .ref a, rfl, a, _, rfl, .inr (SqT.of (s _ _ ha)), fun l nl => ?_⟩
    have sl := same_new nl (o := .lst (ns.map V.int))
    refine ⟨.list (dInts rs), .list (dInts ns), .lst (SqL.of (sl _ _ hr')) (dp_ints rs), .lst (SqL.of upd_same) (dp_ints ns), shaped_lst rs, shaped_lst ns, ?_⟩
    rw [ev_lst, ← left_iff run nf]
    exact hq _ (s.trans sl)
def spOu : Sp := fun vs H Q _ => ∃ (a b : Addr) (xs : List V) (cs : List (Int × Int)) (ns : List Int), vs = [.ref a, .ref b] ∧ H a = some (.tup xs) ∧ PairsAt H xs cs ∧ H b = some (.tup (ns.map V.int)) ∧ cs.length ≤ 2000 ∧ ns.length ≤ 2000 ∧ (∀ r ∈ cs, r.1 < r.2) ∧
  ∀ H' p ys, Same H H' → H' p = some (.lst ys) → ys.isEmpty = inB cs ns → Q (.ref p) H'
theorem ok_ou {f : Addr} {fd : FuncData} {fCO : Addr} {dCO : FuncData} {k : Nat} (F : Fun K "cycles_outside" "cycles_outside" sCO2 f fd) (GCO : FnOk P w K mg base CX0 (k + 1) fCO dCO ["outer", "inner"] (spCont K)) (gCO : mg "contains" = some (.ref fCO)) (kCO : PySem.W.keepIn K (.ref fCO) = true) (bCO : Binds K dCO ["outer", "inner"] []) (mn : mg "min" = none) (mx : mg "max" = none) (mt : mg "list" = none) : FnOk P w K mg base CX0 (k + 2) f fd ["cycles", "rest"] spOu := by
  refine F.ok scCO2 (fun vs H Q E h => ?_) (fun cdv A outer s H vs Q E hr h => ?_)
  · obtain ⟨a, b, xs, cs, ns, rfl, ha, hp, hb, hl1, hl2, hlt, hq⟩ := h
    rfl
  · obtain ⟨a, b, xs, cs, ns, rfl, ha, hp, hb, hl1, hl2, hlt, hq⟩ := h
    refine ⟨_, (pss_cons (ps_if (pt_not (pt_truth (pv 1) (by intro _; rfl))) (pss_one (ps_ret (pe_callTy call_list_of (by rfl) mt (by decide +kernel) (pa_cons (pv 0) pa_nil)))) pss_nil)
      (pss_cons (ps_set (i := 2) scCO2.nd rfl (.inr rfl) (pe_tup (pa_cons (pe_callB (GU.cr_minS rfl) (by rfl) mn (by decide +kernel) (pa_cons (pv 1) pa_nil)) (pa_cons (pe_callB (GU.cr_maxS rfl) (by rfl) mx (by decide +kernel) (pa_cons (pv 1) pa_nil)) pa_nil))))
      (pss_one (ps_ret (pe_lc (own := [("cycle", 3)]) (g := gName 3)   rfl scCO2.nd (pi_tup (pv 0)) (blkOk_by (own := [("cycle", 3)]) (N := ["cycles", "rest", "whole", "cycle"]) (sc := defScope sCO2) (by decide +kernel)) (fun _ _ _ _ _ => (pg_name (i := 3) scCO2.nd rfl (Or.inl rfl) (Or.inr rfl))) (fun _ _ _ _ _ => pts_one (pt_not (pt_val (pe_call GCO hr (by rfl) gCO kCO bCO .nil pass0 (pa_cons (pv 2) (pa_cons (pv 3) pa_nil)))))) (fun _ _ _ _ _ => (pv 3))))))), ?_⟩
    cases ns with
    | nil =>
      refine ⟨.ref b, rfl, _, .inr (.inl ⟨_, SqT.of hb, rfl⟩), iteT ⟨.ref a, rfl, a, xs, rfl, .inr (SqT.of ha), fun l nl => hq _ l xs (same_new nl) upd_same ?_⟩⟩
      have := hp.length
      cases xs with
      | nil =>
        cases cs with
        | nil => rfl
        | cons _ _ => simp at this
      | cons _ _ =>
        cases cs with
        | nil => simp at this
        | cons _ _ => rfl
    | cons n0 ns0 =>
      generalize hns : n0 :: ns0 = ns at *
      have npos : 0 < ns.length := by rw [← hns]; exact Nat.succ_pos _
      have ntru : (!(ns.map V.int).isEmpty) = true := by rw [← hns]; rfl
      refine ⟨.ref b, rfl, _, .inr (.inl ⟨_, SqT.of hb, rfl⟩), ?_⟩
      rw [ntru]
      refine iteF ⟨.ref b, rfl, b, ns, rfl, .inr (SqT.of hb), npos, fun mn h1 h2 => ⟨.ref b, rfl, b, ns, rfl, .inr (SqT.of hb), npos, fun mx h3 h4 => ⟨(show 2 ≤ sizeLine by decide), fun wp nw => ?_⟩⟩⟩
      have sw := same_new nw (o := .tup [.int mn, .int mx])
      have ew : (upd H wp (.tup [.int mn, .int mx])) wp = some (.tup [.int mn, .int mx]) := upd_same
      have ha1 := sw _ _ ha
      have hp1 := hp.same sw
      generalize upd H wp (.tup [.int mn, .int mx]) = H1 at sw ew ha1 hp1 ⊢
      refine ⟨.ref a, rfl, a, rfl, ⟨xs, SqT.of ha1⟩, fun D nD => ?_⟩
      refine lc_it (walk_tup (xs := xs)) (fun i Hz => Same H1 Hz ∧ ∃ ys, Hz D = some (.lst ys) ∧ ys.length ≤ i ∧ ys.isEmpty = inB (cs.take i) ns) ⟨same_new nD, [], upd_same, Nat.le_refl _, rfl⟩ (fun i Hz _ z => SqT.of (z.1 _ _ ha1)) ?_ ?_
      · rintro i x Hz H2 hi ⟨sz, ys, hD, hyl, hye⟩ ⟨rfl, hx⟩
        obtain ⟨r, p, hr1, rfl, hp2⟩ := pr_at hp1 hx
        refine ⟨rfl, .ref wp, rfl, .ref p, rfl, wp, p, mn, mx, r.1, r.2, rfl, SqT.of (sz _ _ ew), SqT.of (sz _ _ hp2), _, rfl, ?_⟩
        have hb2 := inB_take (ns := ns) hr1
        rw [any_min h1 h2, any_max h3 h4] at hb2
        cases hc : (decide (mn ≤ r.1) && decide (r.2 ≤ mx)) with
        | true =>
          rw [hc, Bool.and_true] at hb2
          exact iteF ⟨sz, ys, hD, by omega, by rw [hb2]; exact hye⟩
        | false =>
          rw [hc, Bool.and_false] at hb2
          have hlx : xs.length ≤ 2000 := by rw [hp.length]; exact hl1
          refine iteT ⟨.ref p, rfl, ys, hD, small3000 (by omega), fun b o e => ?_, ys ++ [.ref p], upd_same, by simp; omega, by rw [hb2]; simp⟩
          rw [upd_ne (ne_of_none e nD)]
          exact sz b o e
      · rintro Hz ⟨sz, ys, hD, hyl, hye⟩
        refine hq _ D ys (sw.trans sz) hD ?_
        rw [hye, hp.length, List.take_length]
def spIs : Sp := fun vs H Q _ => ∃ (v : V) (g : Addr) (d : PyData), vs = [v] ∧ Dv g H v d ∧ Wd d ∧ ∀ H', Same H H' → Q (.bl (restB d)) H'
theorem ok_is {f : Addr} {fd : FuncData} {fRD : Addr} {dRD : FuncData} {fAL : Addr} {dAL : FuncData} {k : Nat} (F : Fun K "is_rest" "is_rest" sIR2 f fd) (GRD : FnOk P w K mg base CX0 (k + 2) fRD dRD ["value"] spRd) (gRD : mg "is_reading" = some (.ref fRD)) (kRD : PySem.W.keepIn K (.ref fRD) = true) (bRD : Binds K dRD ["value"] []) (GAL : FnOk P w K mg base CX0 (k + 5) fAL dAL ["points"] spAl) (gAL : mg "are_left" = some (.ref fAL)) (kAL : PySem.W.keepIn K (.ref fAL) = true) (bAL : Binds K dAL ["points"] []) (ms : mg "isinstance" = none) (mt : mg "tuple" = none) (mall : mg "all" = none) : FnOk P w K mg base CX0 (k + 6) f fd ["value"] spIs := by
  refine F.ok scIR2 (fun vs H Q E h => ?_) (fun cdv A outer s H vs Q E hr h => ?_)
  · obtain ⟨v, g, d, rfl, hd, hw, hq⟩ := h
    rfl
  · obtain ⟨v, g, d, rfl, hd, hw, hq⟩ := h
    refine ⟨_, (pss_one (ps_ret (pe_and (pe_callB call_isi (by rfl) ms (by decide +kernel) (pa_cons (pv 0) (pa_cons (pe_bltn (v := .ty "tuple") (by rfl) mt (by decide +kernel) rfl) pa_nil))) (pe_and (pe_callB (cr_all rfl) (by rfl) mall (by decide +kernel) (pa_cons (pe_lc (own := [("point", 1)]) (g := gName 1) (tt := tYes)  rfl scIR2.nd (pi_tup (pv 0)) (blkOk_by (own := [("point", 1)]) (N := ["value", "point"]) (sc := defScope sIR2) (by decide +kernel)) (fun _ _ _ _ _ => (pg_name (i := 1) scIR2.nd rfl (Or.inl rfl) (Or.inr rfl))) (fun _ _ _ _ _ => pts_nil) (fun _ _ _ _ _ => (pe_call (GRD.mono (show k + 2 ≤ k + 5 by omega)) hr (by rfl) gRD kRD bRD .nil pass0 (pa_cons (pv 1) pa_nil)))) pa_nil)) (pe_one (pe_call GAL hr (by rfl) gAL kAL bAL .nil pass0 (pa_cons (pv 0) pa_nil))))))), ?_⟩
    refine ⟨v, rfl, v, .ty "tuple", _, .type "tuple", _, rfl, .ty "tuple", hd.ty, kit_t d, _, rfl, ?_⟩
    cases ht : isT d with
    | false =>
      have hq := hq _ (Same.refl H)
      rw [show restB d = false by cases d <;> simp_all [restB, isT]] at hq
      exact iteF hq
    | true =>
      obtain ⟨ds, rfl⟩ := isT_tup ht
      cases hd with
      | @tup a xs _ hn e da =>
        have hl : xs.length ≤ 2000 := by rw [da.length]; exact hw
        refine iteT ⟨.ref a, rfl, a, rfl, ⟨xs, SqT.of e⟩, fun D nD => ?_⟩
        refine lc_it (walk_tup (xs := xs)) (fun i Hz => Same H Hz ∧ Hz D = some (.lst (((ds.take i).map isRd).map V.bl))) ⟨same_new nD, upd_same⟩ (fun i Hz _ z => SqT.of (z.1 _ _ e)) ?_ ?_
        · rintro i x Hz H2 hi ⟨sz, hD⟩ ⟨rfl, hx⟩
          obtain ⟨d2, e2, dv⟩ := da.at hx
          refine ⟨rfl, iteT (B := True) ⟨x, rfl, x, g, d2, rfl, dv.same sz, _, hD, ?_, fun b o eb => ?_, ?_⟩⟩
          · simp only [List.length_map, List.length_take]
            exact small3000 (by omega)
          · rw [upd_ne (ne_of_none eb nD)]
            exact sz b o eb
          · rw [all_take e2, List.map_append]
            exact upd_same
        · rintro Hz ⟨sz, hD⟩
          rw [da.length, List.take_length] at hD
          refine ⟨D, ds.map isRd, rfl, SqL.of hD, _, rfl, ?_⟩
          rw [all_id]
          cases hb : ds.all isRd with
          | false =>
            have hq := hq _ sz
            rw [show restB (.tuple ds) = false by show (_ && _) = _; rw [hb]; rfl] at hq
            exact iteF hq
          | true =>
            obtain ⟨ns, rfl⟩ := rd_all hb
            have ex := dv_ints_of da
            subst ex
            refine iteT ⟨.ref a, rfl, a, ns, rfl, sz _ _ e, by simpa using hl, fun H' s' => ?_⟩
            have hq := hq _ (sz.trans s')
            rw [show restB (.tuple (dInts ns)) = leftB ns by show (_ && _) = _; rw [hb, intsOf_ints]; rfl] at hq
            exact hq
def spIC : Sp := fun vs H Q _ => ∃ (v1 v2 : V) (g : Addr) (d1 d2 : PyData), vs = [v1, v2] ∧ Dv g H v1 d1 ∧ Dv g H v2 d2 ∧ Wd d1 ∧ Wd d2 ∧ ∀ H', Same H H' → Q (.bl (countB d1 d2)) H'
theorem ok_ic {f : Addr} {fd : FuncData} {fRG : Addr} {dRG : FuncData} {fIS : Addr} {dIS : FuncData} {fOU : Addr} {dOU : FuncData} {k : Nat} (F : Fun K "is_count" "is_count" sIC f fd) (GRG : FnOk P w K mg base CX0 (k + 3) fRG dRG ["value"] spRg) (gRG : mg "is_range" = some (.ref fRG)) (kRG : PySem.W.keepIn K (.ref fRG) = true) (bRG : Binds K dRG ["value"] []) (GIS : FnOk P w K mg base CX0 (k + 6) fIS dIS ["value"] spIs) (gIS : mg "is_rest" = some (.ref fIS)) (kIS : PySem.W.keepIn K (.ref fIS) = true) (bIS : Binds K dIS ["value"] []) (GOU : FnOk P w K mg base CX0 (k + 2) fOU dOU ["cycles", "rest"] spOu) (gOU : mg "cycles_outside" = some (.ref fOU)) (kOU : PySem.W.keepIn K (.ref fOU) = true) (bOU : Binds K dOU ["cycles", "rest"] []) (ms : mg "isinstance" = none) (mt : mg "tuple" = none) (mall : mg "all" = none) : FnOk P w K mg base CX0 (k + 7) f fd ["cycles", "rest"] spIC := by
  refine F.ok scIC (fun vs H Q E h => ?_) (fun cdv A outer s H vs Q E hr h => ?_)
  · obtain ⟨v1, v2, g, d1, d2, rfl, hd1, hd2, hw1, hw2, hq⟩ := h
    rfl
  · obtain ⟨v1, v2, g, d1, d2, rfl, hd1, hd2, hw1, hw2, hq⟩ := h
    refine ⟨_, (pss_cons (ps_if (PW.pt (pw_or (pt_not (pt_val (pe_callB call_isi (by rfl) ms (by decide +kernel) (pa_cons (pv 0) (pa_cons (pe_bltn (v := .ty "tuple") (by rfl) mt (by decide +kernel) rfl) pa_nil))))) (pw_or1 (pt_not (pt_val (pe_callB (cr_all rfl) (by rfl) mall (by decide +kernel) (pa_cons (pe_lc (own := [("cycle", 2)]) (g := gName 2) (tt := tYes)  rfl scIC.nd (pi_tup (pv 0)) (blkOk_by (own := [("cycle", 2)]) (N := ["cycles", "rest", "cycle"]) (sc := defScope sIC) (by decide +kernel)) (fun _ _ _ _ _ => (pg_name (i := 2) scIC.nd rfl (Or.inl rfl) (Or.inr rfl))) (fun _ _ _ _ _ => pts_nil) (fun _ _ _ _ _ => (pe_call (GRG.mono (show k + 3 ≤ k + 6 by omega)) hr (by rfl) gRG kRG bRG .nil pass0 (pa_cons (pv 2) pa_nil)))) pa_nil))))))) (pss_one (ps_ret pe_bl)) pss_nil)
      (pss_one (ps_ret (pe_and (pe_call GIS hr (by rfl) gIS kIS bIS .nil pass0 (pa_cons (pv 1) pa_nil)) (pe_one (pe_notT (pe_call (GOU.mono (show k + 2 ≤ k + 6 by omega)) hr (by rfl) gOU kOU bOU .nil pass0 (pa_cons (pv 0) (pa_cons (pv 1) pa_nil))))))))), ?_⟩
    refine ⟨v1, rfl, v1, .ty "tuple", _, .type "tuple", _, rfl, .ty "tuple", hd1.ty, kit_t d1, _, rfl, ?_⟩
    cases ht : isT d1 with
    | false =>
      have hq := hq _ (Same.refl H)
      rw [show countB d1 d2 = false by cases d1 <;> simp_all [countB, isT]] at hq
      exact iteT (iteT hq)
    | true =>
      obtain ⟨ds, rfl⟩ := isT_tup ht
      cases hd1 with
      | @tup a xs _ hn e da =>
        have hl : xs.length ≤ 2000 := by rw [da.length]; exact hw1
        refine iteF ⟨.ref a, rfl, a, rfl, ⟨xs, SqT.of e⟩, fun D nD => ?_⟩
        refine lc_it (walk_tup (xs := xs)) (fun i Hz => Same H Hz ∧ Hz D = some (.lst (((ds.take i).map isRg).map V.bl))) ⟨same_new nD, upd_same⟩ (fun i Hz _ z => SqT.of (z.1 _ _ e)) ?_ ?_
        · rintro i x Hz H2 hi ⟨sz, hD⟩ ⟨rfl, hx⟩
          obtain ⟨d3, e2, dv⟩ := da.at hx
          refine ⟨rfl, iteT (B := True) ⟨x, rfl, x, g, d3, rfl, dv.same sz, _, hD, ?_, fun b o eb => ?_, ?_⟩⟩
          · simp only [List.length_map, List.length_take]
            exact small3000 (by omega)
          · rw [upd_ne (ne_of_none eb nD)]
            exact sz b o eb
          · rw [all_take e2, List.map_append]
            exact upd_same
        · rintro Hz ⟨sz, hD⟩
          rw [da.length, List.take_length] at hD
          refine ⟨D, ds.map isRg, rfl, SqL.of hD, _, rfl, ?_⟩
          rw [all_id]
          cases hb : ds.all isRg with
          | false =>
            have hq := hq _ sz
            rw [show countB (.tuple ds) d2 = false by show (_ && _ && _) = _; rw [hb]; rfl] at hq
            exact iteT hq
          | true =>
            obtain ⟨cs, rfl, hcs⟩ := rg_all hb
            have ep := dv_pairs_of da
            refine iteF ⟨v2, rfl, v2, g, d2, rfl, hd2.same sz, hw2, fun H2 s2 => ⟨_, rfl, ?_⟩⟩
            cases hr2 : restB d2 with
            | false =>
              have hq := hq _ (sz.trans s2)
              rw [show countB (.tuple (dPairs cs)) d2 = false by show (_ && _ && _) = _; rw [hb, hr2]; rfl] at hq
              exact iteF hq
            | true =>
              obtain ⟨es, rfl⟩ : ∃ es, d2 = .tuple es := by
                cases d2 with
                | tuple es => exact ⟨es, rfl⟩
                | _ => exact absurd hr2 (by simp [restB])
              have hes : es.all isRd = true := by
                have : (es.all isRd && leftB (intsOf es)) = true := hr2
                exact (Bool.and_eq_true _ _ ▸ this).1
              obtain ⟨ns, rfl⟩ := rd_all hes
              cases hd2 with
              | @tup b ys _ hn2 e3 db =>
                have ey := dv_ints_of db
                subst ey
                refine iteT ⟨.ref a, rfl, .ref b, rfl, a, b, xs, cs, ns, rfl, s2 _ _ (sz _ _ e), (ep.same sz).same s2, s2 _ _ (sz _ _ e3), by rw [← ep.length]; exact hl, by simpa [Wd, dInts] using hw2, hcs, fun H' p zs s3 hp hz => ?_⟩
                have hq := hq _ ((sz.trans s2).trans s3)
                rw [show countB (.tuple (dPairs cs)) (.tuple (dInts ns)) = inB cs ns by show (_ && _ && inB _ _) = _; rw [hb, hr2, pairsOf_pairs, intsOf_ints]; rfl] at hq
                refine ⟨_, .inl ⟨zs, SqL.of hp, rfl⟩, ?_⟩
                rw [Bool.not_not, hz]
                exact hq
end
end M3N

/-! counts -/
namespace QH
open PySem PySem.Spec PyProof.Rows L2 KA PH PM PA PB PC RM RN QE QF QG
abbrev sInit : Stmt := inClass sClass 0
abbrev sOf : Stmt := inClass sClass 1
abbrev sPC : Stmt := inClass sClass 4
abbrev sPR : Stmt := inClass sClass 5
abbrev sPH : Stmt := inClass sClass 6
theorem scInit : FnScope ["self", "cycles", "rest"] ["self", "cycles", "rest"] (defScope sInit) := ⟨rfl, rfl, rfl, by decide +kernel, rfl, by decide +kernel, by decide +kernel⟩
theorem scOf : FnScope ["cls", "load", "cycles", "rest"] ["cls", "load"] (defScope sOf) := ⟨rfl, rfl, rfl, by decide +kernel, rfl, by decide +kernel, by decide +kernel⟩
theorem scPC : FnScope ["self"] ["self"] (defScope sPC) := ⟨rfl, rfl, rfl, by decide +kernel, rfl, by decide +kernel, by decide +kernel⟩
theorem scPR : FnScope ["self"] ["self"] (defScope sPR) := ⟨rfl, rfl, rfl, by decide +kernel, rfl, by decide +kernel, by decide +kernel⟩
theorem scPH : FnScope ["self"] ["self"] (defScope sPH) := ⟨rfl, rfl, rfl, by decide +kernel, rfl, by decide +kernel, by decide +kernel⟩
/-! ### sorted pairs -/
/-- the pair at a ref -/
def kOf (H : Hp) : V → Int × Int
  | .ref p => match H p with
    | some (.tup [.int a, .int b]) => (a, b)
    | _ => (0, 0)
  | _ => (0, 0)
theorem kOf_at {H : Hp} {p : Addr} {r : Int × Int} (h : H p = some (.tup [.int r.1, .int r.2])) : kOf H (.ref p) = r := by
  show (match H p with | some (.tup [.int a, .int b]) => (a, b) | _ => (0, 0)) = r
  rw [h]
theorem pairs_key {H : Hp} : ∀ {xs : List V} {rs : List (Int × Int)}, PairsAt H xs rs → rs = xs.map (kOf H) ∧ ∀ x ∈ xs, ∃ t, x = V.ref t ∧ H t = some (.tup [.int (kOf H x).1, .int (kOf H x).2])
  | [], [], _ => ⟨rfl, fun _ z => (List.not_mem_nil z).elim⟩
  | x :: xs, r :: rs, ⟨⟨p, h1, h2⟩, h3⟩ => by
    obtain ⟨e, all⟩ := pairs_key h3
    subst h1
    have k := kOf_at h2
    refine ⟨by rw [List.map_cons, k, ← e], fun x hx => ?_⟩
    rcases List.mem_cons.mp hx with z | z
    · exact ⟨p, z, by rw [z, k]; exact h2⟩
    · exact all x z
  | [], _ :: _, h => h.elim
  | _ :: _, [], h => h.elim
theorem pairs_of {H : Hp} : ∀ {xs : List V}, (∀ x ∈ xs, ∃ t, x = V.ref t ∧ H t = some (.tup [.int (kOf H x).1, .int (kOf H x).2])) → PairsAt H xs (xs.map (kOf H))
  | [], _ => trivial
  | x :: xs, h => ⟨h x List.mem_cons_self, pairs_of fun y hy => h y (List.mem_cons_of_mem _ hy)⟩
theorem sorted_out {H : Hp} {xs ys : List V} {rs : List (Int × Int)} (pa : PairsAt H xs rs) (h1 : SrtO.Srtd (ltP (kOf H)) ys) (h2 : SrtO.Stb (ltP (kOf H)) ys xs) : ∃ ds, PairsAt H ys ds ∧ ds.Perm rs ∧ ds.Pairwise Le := by
  obtain ⟨e, all⟩ := pairs_key pa
  refine ⟨ys.map (kOf H), pairs_of fun y hy => all y (h2.perm.mem_iff.mp hy), by rw [e]; exact h2.perm.map _, ?_⟩
  rw [List.pairwise_map]
  refine h1.imp fun {x y} h => ?_
  have := SrtO.lexB_no.mp h
  show (kOf H x).1 < (kOf H y).1 ∨ ((kOf H x).1 = (kOf H y).1 ∧ (kOf H x).2 ≤ (kOf H y).2)
  omega
/-- cls(..), cls a parameter that holds a class -/
theorem pe_makeL {X : Cx} {CX : CXT} {k i : Nat} {C f : Addr} {fd : FuncData} {ps : List Str} {sp : Sp} {dvs : List V} {ds : List Value} {E : XK} {x : Str} {p pos : Pos} {e : Expr} {es : List Expr} {t : TA}
    (M : Mk X.K C f) (F : FnOk X.prog X.w X.K X.mg X.base CX k f fd ps sp) (hr : Room (k + 1) X.A) (hN : X.N[i]? = some x) (hv : Vis X.env.scope x) (hb : Binds X.K fd ps ds) (hd : Vals dvs ds) (hx : Passes CX X E) (ha : PA X (e :: es) t)
    (hdb : (x == ("__debug__" : Str)) = false := by decide) (hcd : (x == ("__classdict__" : Str)) = false := by decide)
    (he : starEach (e :: es) X.env = (false, eval e X.env) :: starEach es X.env := by rfl) (hpl : (backTo pos (starEach es X.env)).any (·.1) = false := by rfl) :
    PE X (.Call (.Name x p) (e :: es) [] pos) (fun σ H Q => σ[i]? = some (some (.ref C)) ∧ tMake C sp dvs E t σ H Q) := by
  refine ⟨fun pins s σ H Q I ⟨hs, ht⟩ => ?_⟩
  refine wpAny_Call_Name_kw (thn ((pe_var (pos := p) hN hv hdb hcd).run pins s σ H (fun v H1 => v = .ref C ∧ H1 = H) I ⟨.ref C, hs, rfl, rfl⟩) fun u s1 ⟨v, H1, I1, r1, e1, e2⟩ => ?_)
  subst e1 e2
  cases r1
  exact PySem.W.callWith_K (h₀ := X.base) I.ok.mod.kin M.kp (thn (ha.run pos pins s1 σ _ _ I1 ht) fun us s2 ⟨vs, H2, I2, r, q⟩ => ⟨I2.kIn, run_make M F hr hb hd hx I2 r q⟩) he hpl
/-- a count stands at x -/
def CountAt (H : Hp) (C x : Addr) (ds : List (Int × Int)) (rs : List Int) : Prop := ∃ (dx t1 t2 : Addr) (ys : List V), H x = some (.ins C dx [("_cycles", .ref t1), ("_rest", .ref t2)]) ∧ H t1 = some (.tup ys) ∧ PairsAt H ys ds ∧ H t2 = some (.tup (rs.map V.int))
theorem CountAt.same {H H' : Hp} {C x : Addr} {ds : List (Int × Int)} {rs : List Int} (h : CountAt H C x ds rs) (s : Same H H') : CountAt H' C x ds rs := by
  obtain ⟨dx, t1, t2, ys, h1, h2, h3, h4⟩ := h
  exact ⟨dx, t1, t2, ys, s _ _ h1, s _ _ h2, h3.same s, s _ _ h4⟩
/-- what of the text the class has -/
structure Cnt (K : PySem.W.Frag) (C : Addr) : Prop where
  cl : Cls K C
  nC : NoAttr K C "_cycles"
  nR : NoAttr K C "_rest"
theorem pairs_ne {H H' : Hp} {x : Addr} (k : ∀ b o, b ≠ x → H b = some o → H' b = some o) (hx : ∀ o, H x = some o → ∃ C d fs, o = .ins C d fs) : ∀ {xs : List V} {rs : List (Int × Int)}, PairsAt H xs rs → PairsAt H' xs rs
  | [], [], _ => trivial
  | y :: xs, r :: rs, ⟨⟨p, h1, h2⟩, h3⟩ => ⟨⟨p, h1, k p _ (fun z => by
      subst z
      obtain ⟨C, d, fs, e⟩ := hx _ h2
      cases e) h2⟩, pairs_ne k hx h3⟩
  | [], _ :: _, h => h.elim
  | _ :: _, [], h => h.elim
section
variable {P : Program} {w : World} {K : PySem.W.Frag} {mg : Str → Option Value} {base : Heap} {C : Addr}
def spInit (K : PySem.W.Frag) (C : Addr) : Sp := fun vs H Q _ => ∃ (x c r dx : Addr) (xs : List V) (cs : List (Int × Int)) (rs : List Int), vs = [.ref x, .ref c, .ref r] ∧ H x = some (.ins C dx []) ∧ H c = some (.lst xs) ∧ PairsAt H xs cs ∧ H r = some (.lst (rs.map V.int)) ∧
  ∀ H' ds, (∀ b o, b ≠ x → H b = some o → H' b = some o) → CountAt H' C x ds rs → ds.Perm cs → ds.Pairwise Le → Q .non H'
theorem ok_init {f : Addr} {fd : FuncData} {k : Nat} (F : Fun K "__init__" "Count.__init__" sInit f fd) (T : Cnt K C) (ms : mg "sorted" = none) (mt : mg "tuple" = none) : FnOk P w K mg base CX0 (k + 1) f fd ["self", "cycles", "rest"] (spInit K C) := by
  refine F.ok scInit (fun vs H Q E h => ?_) (fun cdv A outer s H vs Q E hr h => ?_)
  · obtain ⟨x, c, r, dx, xs, cs, rs, rfl, _⟩ := h
    rfl
  · obtain ⟨x, c, r, dx, xs, cs, rs, rfl, hx, hc, pa, hrr, hq⟩ := h
    refine ⟨_, pss_cons (ps_fld (pv 0) (pe_callTy call_tuple_of (by rfl) mt (by decide +kernel) (pa_cons (pe_callB cr_sortedPO (by rfl) ms (by decide +kernel) (pa_cons (pv 1) pa_nil)) pa_nil)) rfl)
      (pss_one (ps_fld (pv 0) (pe_callTy call_tuple_of (by rfl) mt (by decide +kernel) (pa_cons (pv 2) pa_nil)) rfl)), ?_⟩
    refine ⟨.ref c, rfl, c, xs, kOf H, rfl, SqL.of hc, (pairs_key pa).2, fun ys p h1 h2 np => ?_⟩
    obtain ⟨ds, pd, perm, srt⟩ := sorted_out pa h1 h2
    refine ⟨p, ys, rfl, .inl ⟨SqL.of upd_same, fun t1 nt1 => ?_⟩⟩
    have s1 : Same H (upd (upd H p (.lst ys)) t1 (.tup ys)) := (same_new np).trans (same_new nt1)
    have g1 := upd_same (H := upd H p (.lst ys)) (a := t1) (o := .tup ys)
    generalize upd (upd H p (.lst ys)) t1 (.tup ys) = H1 at s1 g1 ⊢
    have hx1 := s1 _ _ hx
    refine ⟨.ref x, rfl, x, C, dx, [], rfl, hx1, T.cl, T.nC, by decide, ?_⟩
    have nrx : r ≠ x := fun z => by rw [z, hx] at hrr; cases hrr
    have nt1x : t1 ≠ x := fun z => by rw [z, hx1] at g1; cases g1
    have hr1 : (upd H1 x (.ins C dx (putF "_cycles" (.ref t1) []))) r = some (.lst (rs.map V.int)) := by rw [upd_ne nrx]; exact s1 _ _ hrr
    refine ⟨.ref r, rfl, r, _, rfl, .inl ⟨SqL.of hr1, fun t2 nt2 => ?_⟩⟩
    have nt2x : t2 ≠ x := fun z => by rw [z, upd_same] at nt2; cases nt2
    have hx2 : (upd (upd H1 x (.ins C dx (putF "_cycles" (.ref t1) []))) t2 (.tup (rs.map V.int))) x = some (.ins C dx [("_cycles", .ref t1)]) := by rw [upd_ne nt2x.symm, upd_same]; rfl
    have n12 : t1 ≠ t2 := fun z => by rw [← z, upd_ne nt1x, g1] at nt2; cases nt2
    refine ⟨.ref x, rfl, x, C, dx, [("_cycles", .ref t1)], rfl, hx2, T.cl, T.nR, by show 1 < 1000; decide, ?_⟩
    have keep : ∀ b o, b ≠ x → H b = some o → (upd (upd (upd H1 x (.ins C dx (putF "_cycles" (.ref t1) []))) t2 (.tup (rs.map V.int))) x (.ins C dx (putF "_rest" (.ref t2) [("_cycles", .ref t1)]))) b = some o := fun b o nb e => by
      have e1 := s1 _ _ e
      have nb2 : b ≠ t2 := fun z => by rw [← z, upd_ne nb, e1] at nt2; cases nt2
      rw [upd_ne nb, upd_ne nb2, upd_ne nb]
      exact e1
    refine hq _ ds keep ⟨dx, t1, t2, ys, ?_, ?_, pairs_ne keep (fun o e => by rw [hx] at e; cases e; exact ⟨_, _, _, rfl⟩) pd, ?_⟩ perm srt
    · rw [upd_same]
      rfl
    · rw [upd_ne nt1x, upd_ne n12, upd_ne nt1x]
      exact g1
    · rw [upd_ne nt2x, upd_same]
def spOf (K : PySem.W.Frag) (C : Addr) : Sp := fun vs H Q _ => ∃ (a : Addr) (ns : List Int), vs = [.ref C, .ref a] ∧ Sq K H a (ns.map V.int) ∧ ns.length ≤ 2500 ∧
  ∀ H' x cs ds rs, Same H H' → H x = none → CountAt H' C x ds rs → Run (tp ns) cs rs → NF rs → ds.Perm cs → ds.Pairwise Le → Q (.ref x) H'
theorem ok_of {f fI fO : Addr} {fd fdI fdO : FuncData} {k : Nat} (F : Fun K "of" "Count.of" sOf f fd) (M : Mk K C fI)
    (GI : FnOk P w K mg base CX0 (k + 2) fI fdI ["self", "cycles", "rest"] (spInit K C)) (bI : Binds K fdI ["self", "cycles", "rest"] [])
    (GO : FnOk P w K mg base CX0 (k + 3) fO fdO ["load"] (spCo K)) (gO : mg "_counted" = some (.ref fO)) (kO : PySem.W.keepIn K (.ref fO) = true) (bO : Binds K fdO ["load"] []) : FnOk P w K mg base CX0 (k + 4) f fd ["cls", "load"] (spOf K C) := by
  refine F.ok scOf (fun vs H Q E h => ?_) (fun cdv A outer s H vs Q E hr h => ?_)
  · obtain ⟨a, ns, rfl, _⟩ := h
    rfl
  · obtain ⟨a, ns, rfl, hS, hlen, hq⟩ := h
    refine ⟨_, pss_cons (ps_asg (pe_call GO hr (by rfl) gO kO bO .nil pass0 (pa_cons (pv 1) pa_nil)) (pg_tup rfl (pgs_cons (pg_name (i := 2) scOf.nd rfl (.inl rfl)) (pgs_cons (pg_name (i := 3) scOf.nd rfl (.inl rfl)) pgs_nil))))
      (pss_one (ps_ret (pe_makeL (i := 0) M GI hr rfl (.inl rfl) bI .nil pass0 (pa_cons (pv 2) (pa_cons (pv 3) pa_nil))))), ?_⟩
    refine ⟨.ref a, rfl, a, ns, rfl, hS, hlen, fun H1 p c r xs cs rs s1 np ep ec pa er run nf => ?_⟩
    refine ⟨p, _, rfl, SqT.of ep, rfl, .ref c, [.ref r], rfl, .ref r, [], rfl, rfl, rfl, .ref c, rfl, .ref r, rfl, fun x dx nx ndx ne => ?_⟩
    have s2 : Same H1 (upd (upd H1 dx (.own x)) x (.ins C dx [])) := (same_new ndx).trans (same_new (by rw [upd_ne ne.symm]; exact nx))
    refine ⟨x, c, r, dx, xs, cs, rs, rfl, upd_same, s2 _ _ ec, pa.same s2, s2 _ _ er, fun H' ds keep ca perm srt => ⟨rfl, ?_⟩⟩
    have s3 : Same H1 H' := fun b o e => keep b o (ne_of_none e nx) (s2 _ _ e)
    exact hq H' x cs ds rs (s1.trans s3) (s1.free nx) ca run nf perm srt
def spPC (C : Addr) : Sp := fun vs H Q _ => ∃ (x : Addr) (ds : List (Int × Int)) (rs : List Int), vs = [.ref x] ∧ CountAt H C x ds rs ∧ ∀ t ys, H t = some (.tup ys) → PairsAt H ys ds → Q (.ref t) H
def spPR (C : Addr) : Sp := fun vs H Q _ => ∃ (x : Addr) (ds : List (Int × Int)) (rs : List Int), vs = [.ref x] ∧ CountAt H C x ds rs ∧ ∀ t, H t = some (.tup (rs.map V.int)) → Q (.ref t) H
theorem ok_PC {f : Addr} {fd : FuncData} {k : Nat} (F : Fun K "cycles" "Count.cycles" sPC f fd) (T : Cnt K C) : FnOk P w K mg base CX0 (k + 1) f fd ["self"] (spPC C) := by
  refine F.ok scPC (fun vs H Q E h => ?_) (fun cdv A outer s H vs Q E hr h => ?_)
  · obtain ⟨x, ds, rs, rfl, _⟩ := h
    rfl
  · obtain ⟨x, ds, rs, rfl, ⟨dx, t1, t2, ys, h1, h2, h3, h4⟩, hq⟩ := h
    refine ⟨_, pss_one (ps_ret (pe_fld (pv 0) rfl)), ?_⟩
    exact ⟨.ref x, rfl, x, C, dx, _, .ref t1, rfl, h1, T.cl, T.nC, rfl, hq t1 ys h2 h3⟩
theorem ok_PR {f : Addr} {fd : FuncData} {k : Nat} (F : Fun K "rest" "Count.rest" sPR f fd) (T : Cnt K C) : FnOk P w K mg base CX0 (k + 1) f fd ["self"] (spPR C) := by
  refine F.ok scPR (fun vs H Q E h => ?_) (fun cdv A outer s H vs Q E hr h => ?_)
  · obtain ⟨x, ds, rs, rfl, _⟩ := h
    rfl
  · obtain ⟨x, ds, rs, rfl, ⟨dx, t1, t2, ys, h1, h2, h3, h4⟩, hq⟩ := h
    refine ⟨_, pss_one (ps_ret (pe_fld (pv 0) rfl)), ?_⟩
    exact ⟨.ref x, rfl, x, C, dx, _, .ref t2, rfl, h1, T.cl, T.nR, rfl, hq t2 h4⟩
end
end QH

/-! changes of a load, as mathematics -/
namespace KM
/-- how often a letter differs from the one before, the first of all being a -/
def cf : Bool → List Bool → Nat
  | _, [] => 0
  | a, b :: r => (if a = b then 0 else 1) + cf b r
def cnt : List Bool → Nat
  | [] => 0
  | a :: r => cf a r
def cfO : Option Bool → List Bool → Nat
  | none, l => cnt l
  | some a, l => cf a l
/-- the letter of a reading: true for L -/
def lett (lo hi : Int) (r : Int) : Option Bool := if r ≤ lo then some true else if hi ≤ r then some false else none
def lets (lo hi : Int) (ns : List Int) : List Bool := ns.filterMap (lett lo hi)
def chg (ns : List Int) (lo hi : Int) : Nat := cnt (lets lo hi ns)
theorem cf_tri (a b : Bool) : ∀ l : List Bool, cf a l ≤ (if a = b then 0 else 1) + cf b l
  | [] => Nat.zero_le _
  | c :: r => by
    simp only [cf]
    cases a <;> cases b <;> cases c <;> simp <;> omega
theorem cf_mono : ∀ {l m : List Bool}, l.Sublist m → ∀ a, cf a l ≤ cf a m := by
  intro l m h
  induction h with
  | slnil => intro a; exact Nat.le_refl _
  | @cons l m b h ih =>
    intro a
    have h1 := cf_tri a b l
    have h2 := ih b
    simp only [cf]
    omega
  | @cons_cons l m b h ih =>
    intro a
    have h2 := ih b
    simp only [cf]
    omega
theorem cnt_mono : ∀ {l m : List Bool}, l.Sublist m → cnt l ≤ cnt m := by
  intro l m h
  induction h with
  | slnil => exact Nat.le_refl _
  | @cons l m b h ih =>
    cases m with
    | nil =>
      cases h
      exact Nat.le_refl _
    | cons d r =>
      show cnt l ≤ (if b = d then 0 else 1) + cf d r
      have : cnt (d :: r) = cf d r := rfl
      omega
  | @cons_cons l m b h ih => exact cf_mono h b
theorem lets_sub {lo hi lo2 hi2 : Int} (h1 : lo ≤ lo2) (h2 : hi2 ≤ hi) (h3 : lo2 < hi2) : ∀ ns : List Int, (lets lo hi ns).Sublist (lets lo2 hi2 ns)
  | [] => .slnil
  | r :: t => by
    have ih := lets_sub h1 h2 h3 t
    have key : lett lo hi r = none ∨ lett lo hi r = lett lo2 hi2 r := by
      unfold lett
      by_cases a : r ≤ lo
      · right
        rw [if_pos a, if_pos (by omega)]
      · rw [if_neg a]
        by_cases b : hi ≤ r
        · right
          rw [if_pos b, if_neg (by omega), if_pos (by omega)]
        · left
          rw [if_neg b]
    show ((r :: t).filterMap (lett lo hi)).Sublist ((r :: t).filterMap (lett lo2 hi2))
    rw [List.filterMap_cons, List.filterMap_cons]
    rcases key with e | e
    · rw [e]
      dsimp only
      cases lett lo2 hi2 r with
      | none => exact ih
      | some b => exact .cons _ ih
    · rw [← e]
      cases lett lo hi r with
      | none => exact ih
      | some b => exact .cons_cons _ ih
theorem chg_range {lo hi lo2 hi2 : Int} (h1 : lo ≤ lo2) (h2 : hi2 ≤ hi) (h3 : lo2 < hi2) (ns : List Int) : chg ns lo hi ≤ chg ns lo2 hi2 := cnt_mono (lets_sub h1 h2 h3 ns)
theorem chg_sub {l m : List Int} (h : l.Sublist m) (lo hi : Int) : chg l lo hi ≤ chg m lo hi := cnt_mono (h.filterMap _)
theorem chg_put (ns : List Int) (k : Nat) (v lo hi : Int) : chg ns lo hi ≤ chg (ns.take k ++ [v] ++ ns.drop k) lo hi := by
  refine chg_sub ?_ lo hi
  have e : ns = ns.take k ++ ns.drop k := (List.take_append_drop k ns).symm
  have h1 : (ns.take k).Sublist (ns.take k ++ [v]) := List.sublist_append_left _ _
  have h2 := h1.append (List.Sublist.refl (ns.drop k))
  rw [List.take_append_drop] at h2
  exact h2
theorem lets_drop {lo hi : Int} {ns : List Int} {i : Nat} {r : Int} (h : ns[i]? = some r) : lets lo hi (ns.drop i) = (match lett lo hi r with | none => lets lo hi (ns.drop (i + 1)) | some b => b :: lets lo hi (ns.drop (i + 1))) := by
  obtain ⟨h1, h2⟩ := List.getElem?_eq_some_iff.mp h
  rw [List.drop_eq_getElem_cons h1, h2]
  unfold lets
  rw [List.filterMap_cons]
  cases lett lo hi r <;> rfl
theorem lets_take {lo hi : Int} {ns : List Int} {i : Nat} {r : Int} (h : ns[i]? = some r) : lets lo hi (ns.take (i + 1)) = (match lett lo hi r with | none => lets lo hi (ns.take i) | some b => lets lo hi (ns.take i) ++ [b]) := by
  rw [List.take_add_one, h]
  unfold lets
  rw [List.filterMap_append]
  show _ ++ List.filterMap _ [r] = _
  rw [List.filterMap_cons]
  cases lett lo hi r with
  | none => simp
  | some b => rfl
theorem lets_len (lo hi : Int) (ns : List Int) : (lets lo hi ns).length ≤ ns.length := List.length_filterMap_le _ _
/-- the number of turns of a zip with itself, one on, whose two differ -/
theorem cnt_drop {l : List Bool} {i : Nat} {a b : Bool} (h1 : l[i]? = some a) (h2 : l[i + 1]? = some b) : cnt (l.drop i) = (if a = b then 0 else 1) + cnt (l.drop (i + 1)) := by
  obtain ⟨k1, e1⟩ := List.getElem?_eq_some_iff.mp h1
  obtain ⟨k2, e2⟩ := List.getElem?_eq_some_iff.mp h2
  rw [List.drop_eq_getElem_cons k1, e1, List.drop_eq_getElem_cons k2, e2]
  rfl
theorem cnt_end {l : List Bool} {i : Nat} (h : l.length ≤ i + 1) : cnt (l.drop i) = 0 := by
  have : (l.drop i).length ≤ 1 := by rw [List.length_drop]; omega
  match l.drop i, this with
  | [], _ => rfl
  | [_], _ => rfl
end KM

/-! changes decide the half-cycles, as mathematics -/
namespace RC
open KM PM RM RN
/-- a range holds another one -/
def hl (lo hi : Int) (r : Int × Int) : Bool := decide (r.1 ≤ lo) && decide (hi ≤ r.2)
def nh (lo hi : Int) (rs : List (Int × Int)) : Nat := rs.countP (hl lo hi)
def b1 (b : Bool) : Nat := if b = true then 1 else 0
theorem nh_cons (lo hi : Int) (r : Int × Int) (rs : List (Int × Int)) : nh lo hi (r :: rs) = b1 (hl lo hi r) + nh lo hi rs := by
  unfold nh b1
  rw [List.countP_cons]
  omega
theorem nh_app (lo hi : Int) (rs ss : List (Int × Int)) : nh lo hi (rs ++ ss) = nh lo hi rs + nh lo hi ss := List.countP_append
theorem nh_perm {lo hi : Int} {rs ss : List (Int × Int)} (h : rs.Perm ss) : nh lo hi rs = nh lo hi ss := h.countP_eq _
/-- a letter is read, some before -/
def cl (lo hi : Int) (o : Option Bool) (ns : List Int) : Nat := cfO o (lets lo hi ns)
def d2 (o : Option Bool) (b : Bool) : Nat := match o with
  | none => 0
  | some a => if a = b then 0 else 1
theorem cl_nil (lo hi : Int) (o : Option Bool) : cl lo hi o [] = 0 := by cases o <;> rfl
theorem cl_cons (lo hi : Int) (o : Option Bool) (x : Int) (ns : List Int) : cl lo hi o (x :: ns) = match lett lo hi x with
    | none => cl lo hi o ns
    | some b => d2 o b + cl lo hi (some b) ns := by
  unfold cl lets
  rw [List.filterMap_cons]
  cases lett lo hi x with
  | none => rfl
  | some b =>
    cases o with
    | none => show cf b _ = 0 + cf b _; omega
    | some a => rfl
theorem lett_lo {lo hi x : Int} (h : x ≤ lo) : lett lo hi x = some true := if_pos h
theorem lett_hi {lo hi x : Int} (h0 : lo < hi) (h : hi ≤ x) : lett lo hi x = some false := by unfold lett; rw [if_neg (by omega), if_pos h]
theorem lett_no {lo hi x : Int} (h1 : lo < x) (h2 : x < hi) : lett lo hi x = none := by unfold lett; rw [if_neg (by omega), if_neg (by omega)]
theorem lett3 (lo hi x : Int) (h0 : lo < hi) : (x ≤ lo ∧ lett lo hi x = some true) ∨ (hi ≤ x ∧ lett lo hi x = some false) ∨ (lo < x ∧ x < hi ∧ lett lo hi x = none) := by
  by_cases a : x ≤ lo
  · exact .inl ⟨a, lett_lo a⟩
  · by_cases b : hi ≤ x
    · exact .inr (.inl ⟨b, lett_hi h0 b⟩)
    · exact .inr (.inr ⟨by omega, by omega, lett_no (by omega) (by omega)⟩)
theorem hl_iff {lo hi : Int} {a b : Int} : hl lo hi (a, b) = decide (a ≤ lo ∧ hi ≤ b) := by
  unfold hl
  by_cases h1 : a ≤ lo <;> by_cases h2 : hi ≤ b <;> simp [h1, h2]
theorem four_up {lo hi a b c d : Int} (h0 : lo < hi) (post : List Int) (o : Option Bool) (h1 : a ≤ c) (h2 : c < b) (h3 : b ≤ d) : cl lo hi o (a :: b :: c :: d :: post) = cl lo hi o (a :: d :: post) + 2 * b1 (hl lo hi (c, b)) := by
  rw [hl_iff]
  simp only [cl_cons]
  rcases lett3 lo hi a h0 with ⟨x1, e1⟩ | ⟨x1, e1⟩ | ⟨x1, y1, e1⟩ <;> rcases lett3 lo hi b h0 with ⟨x2, e2⟩ | ⟨x2, e2⟩ | ⟨x2, y2, e2⟩ <;> rcases lett3 lo hi c h0 with ⟨x3, e3⟩ | ⟨x3, e3⟩ | ⟨x3, y3, e3⟩ <;> rcases lett3 lo hi d h0 with ⟨x4, e4⟩ | ⟨x4, e4⟩ | ⟨x4, y4, e4⟩ <;> first
    | (exfalso; omega)
    | (rw [decide_eq_true (by omega), e1, e2, e3, e4]; simp only [d2, b1]; cases o with
        | none => simp <;> omega
        | some p => cases p <;> simp <;> omega)
    | (rw [decide_eq_false (by omega), e1, e2, e3, e4]; simp only [d2, b1]; cases o with
        | none => simp
        | some p => cases p <;> simp)
theorem four_down {lo hi a b c d : Int} (h0 : lo < hi) (post : List Int) (o : Option Bool) (h1 : c ≤ a) (h2 : b < c) (h3 : d ≤ b) : cl lo hi o (a :: b :: c :: d :: post) = cl lo hi o (a :: d :: post) + 2 * b1 (hl lo hi (b, c)) := by
  rw [hl_iff]
  simp only [cl_cons]
  rcases lett3 lo hi a h0 with ⟨x1, e1⟩ | ⟨x1, e1⟩ | ⟨x1, y1, e1⟩ <;> rcases lett3 lo hi b h0 with ⟨x2, e2⟩ | ⟨x2, e2⟩ | ⟨x2, y2, e2⟩ <;> rcases lett3 lo hi c h0 with ⟨x3, e3⟩ | ⟨x3, e3⟩ | ⟨x3, y3, e3⟩ <;> rcases lett3 lo hi d h0 with ⟨x4, e4⟩ | ⟨x4, e4⟩ | ⟨x4, y4, e4⟩ <;> first
    | (exfalso; omega)
    | (rw [decide_eq_true (by omega), e1, e2, e3, e4]; simp only [d2, b1]; cases o with
        | none => simp <;> omega
        | some p => cases p <;> simp <;> omega)
    | (rw [decide_eq_false (by omega), e1, e2, e3, e4]; simp only [d2, b1]; cases o with
        | none => simp
        | some p => cases p <;> simp)
theorem cl_step {lo hi : Int} (h0 : lo < hi) {p q : List Int} {c : Int × Int} (h : Step p c q) : ZZ p → ∀ o, cl lo hi o p = cl lo hi o q + 2 * b1 (hl lo hi c) := by
  induction h with
  | @here a b c d post t =>
    intro z o
    rcases (taken_iff z.four).mp t with ⟨x1, x2, x3, x4, x5⟩ | ⟨x1, x2, x3, x4, x5⟩
    · rw [rg_down x2]; exact four_up h0 post o x4 x2 x5
    · rw [rg_up x2]; exact four_down h0 post o x4 x2 x5
  | @there x p q cy s ih =>
    intro z o
    rw [cl_cons, cl_cons]
    cases lett lo hi x with
    | none => exact ih z.tail o
    | some b =>
      have := ih z.tail (some b)
      show d2 o b + cl lo hi (some b) p = d2 o b + cl lo hi (some b) q + _
      omega
theorem cl_run {lo hi : Int} (h0 : lo < hi) {p q : List Int} {cs : List (Int × Int)} (h : Run p cs q) : ZZ p → ∀ o, cl lo hi o p = cl lo hi o q + 2 * nh lo hi cs := by
  induction h with
  | nil p => intro _ o; rfl
  | cons s _ ih =>
    intro z o
    rw [cl_step h0 s z o, ih (ZZ.step s z) o, nh_cons]
    omega
/-! the load and its turning points -/
theorem cl_same {lo hi : Int} (o : Option Bool) (a : Int) (l : List Int) : cl lo hi o (a :: a :: l) = cl lo hi o (a :: l) := by
  simp only [cl_cons]
  cases lett lo hi a with
  | none => rfl
  | some b => simp [d2]
theorem cl_btw {lo hi : Int} (h0 : lo < hi) (o : Option Bool) {b a r : Int} (l : List Int) (h : Btw a b r) : cl lo hi o (b :: a :: r :: l) = cl lo hi o (b :: r :: l) := by
  simp only [cl_cons]
  rcases lett3 lo hi a h0 with ⟨x1, e1⟩ | ⟨x1, e1⟩ | ⟨x1, y1, e1⟩ <;> rcases lett3 lo hi b h0 with ⟨x2, e2⟩ | ⟨x2, e2⟩ | ⟨x2, y2, e2⟩ <;> rcases lett3 lo hi r h0 with ⟨x3, e3⟩ | ⟨x3, e3⟩ | ⟨x3, y3, e3⟩ <;> first
    | (exfalso; omega)
    | (rw [e1, e2, e3]; done)
    | (rw [e1, e2, e3]; cases o with
        | none => simp [d2]
        | some p => cases p <;> simp [d2])
theorem cl_tq {lo hi : Int} (h0 : lo < hi) : ∀ (l : List Int) (o : Option Bool) (b a : Int), cl lo hi o (b :: tq b a l) = cl lo hi o (b :: a :: l)
  | [], _, _, _ => rfl
  | r :: l, o, b, a => by
    simp only [tq]
    by_cases e : a = r
    · rw [if_pos e, cl_tq h0 l o b a, ← e, cl_cons lo hi o b (a :: a :: l), cl_cons lo hi o b (a :: l)]
      cases lett lo hi b with
      | none => exact (cl_same _ _ _).symm
      | some x => exact congrArg _ (cl_same _ _ _).symm
    · rw [if_neg e]
      by_cases bt : Btw a b r
      · rw [if_pos bt, cl_tq h0 l o b r, cl_btw h0 o l bt]
      · rw [if_neg bt, cl_cons lo hi o b (a :: tq a r l), cl_cons lo hi o b (a :: r :: l)]
        cases lett lo hi b with
        | none => exact cl_tq h0 l o a r
        | some x => exact congrArg (d2 o x + ·) (cl_tq h0 l (some x) a r)
theorem cl_ts {lo hi : Int} (h0 : lo < hi) : ∀ (l : List Int) (o : Option Bool) (a : Int), cl lo hi o (ts a l) = cl lo hi o (a :: l)
  | [], _, _ => rfl
  | r :: l, o, a => by
    simp only [ts]
    by_cases e : a = r
    · rw [if_pos e, cl_ts h0 l o a, ← e, cl_same]
    · rw [if_neg e, cl_tq h0 l o a r]
theorem cl_tp {lo hi : Int} (h0 : lo < hi) (ns : List Int) : cl lo hi none (tp ns) = chg ns lo hi := by
  cases ns with
  | nil => rfl
  | cons a l => exact cl_ts h0 l none a
/-! the rest: swings that grow and then shrink -/
def In (u v : Int) (ps : List Int) : Prop := ∀ x ∈ ps, u ≤ x ∧ x ≤ v
/-- each swing within the one before -/
def Con : List Int → Prop
  | x :: y :: z :: r => ((y < x ∧ y < z ∧ z ≤ x) ∨ (x < y ∧ z < y ∧ x ≤ z)) ∧ Con (y :: z :: r)
  | _ => True
theorem Con.inside : ∀ {r : List Int} {x y : Int}, Con (x :: y :: r) → x ≠ y → In (if x < y then x else y) (if x < y then y else x) (x :: y :: r)
  | [], x, y, _, h => by
    intro w hw
    rcases List.mem_cons.mp hw with e | hw
    · subst e; split <;> omega
    · rcases List.mem_cons.mp hw with e | hw
      · subst e; split <;> omega
      · exact absurd hw (List.not_mem_nil)
  | z :: r, x, y, c, h => by
    have ih := Con.inside c.2 (by have := c.1; omega)
    intro w hw
    have c1 := c.1
    rcases List.mem_cons.mp hw with e | hw
    · subst e; split <;> omega
    · have := ih w hw
      by_cases e1 : y < z
      · rw [if_pos e1, if_pos e1] at this
        rw [if_neg (by omega), if_neg (by omega)]
        omega
      · rw [if_neg e1, if_neg e1] at this
        rw [if_pos (by omega), if_pos (by omega)]
        omega
theorem nf_con : ∀ {r : List Int} {x y z : Int}, ZZ (x :: y :: z :: r) → NF (x :: y :: z :: r) → ((y < x ∧ z ≤ x) ∨ (x < y ∧ x ≤ z)) → Con (x :: y :: z :: r)
  | [], x, y, z, zz, _, h => ⟨by have := zz.1; omega, trivial⟩
  | w :: r, x, y, z, zz, n, h => by
    have z1 := zz.1
    have z2 := zz.2.1
    refine ⟨by omega, nf_con zz.2 (fun c q s => n _ _ (.there s)) ?_⟩
    have nt : ¬ Taken x y z w := fun t => n _ _ (.here t)
    rw [taken_iff zz.four] at nt
    omega
theorem one_letter {lo hi : Int} {b : Bool} : ∀ (l : List Int) (o : Option Bool), (o = none ∨ o = some b) → (∀ x ∈ l, lett lo hi x = none ∨ lett lo hi x = some b) → cl lo hi o l = 0
  | [], o, _, _ => cl_nil lo hi o
  | x :: l, o, h1, h2 => by
    have ih := fun o h => one_letter l o h (fun x hx => h2 x (List.mem_cons_of_mem _ hx))
    rw [cl_cons]
    rcases h2 x List.mem_cons_self with e | e
    · rw [e]; exact ih o h1
    · rw [e]
      show d2 o b + cl lo hi (some b) l = 0
      rw [ih _ (.inr rfl)]
      rcases h1 with e | e
      · rw [e]; rfl
      · rw [e]; simp [d2]
theorem con_one {lo hi x y : Int} (h0 : lo < hi) {r : List Int} (h : In (if x < y then x else y) (if x < y then y else x) (x :: y :: r)) (ne : x ≠ y) : cl lo hi none (x :: y :: r) = b1 (hl lo hi (rg x y)) + cl lo hi none (y :: r) := by
  have out : ∀ u v, u < v → In u v (x :: y :: r) → hl lo hi (u, v) = false → cl lo hi none (x :: y :: r) = 0 ∧ cl lo hi none (y :: r) = 0 := by
    intro u v huv hin hn
    rw [hl_iff] at hn
    have hn := of_decide_eq_false hn
    by_cases a : u ≤ lo
    · have hb : v < hi := by omega
      have key : ∀ w ∈ x :: y :: r, lett lo hi w = none ∨ lett lo hi w = some true := fun w hw => by
        have := hin w hw
        rcases lett3 lo hi w h0 with ⟨_, e⟩ | ⟨z, e⟩ | ⟨_, _, e⟩
        · exact .inr e
        · omega
        · exact .inl e
      exact ⟨one_letter _ _ (.inl rfl) key, one_letter _ _ (.inl rfl) fun w hw => key w (List.mem_cons_of_mem _ hw)⟩
    · have key : ∀ w ∈ x :: y :: r, lett lo hi w = none ∨ lett lo hi w = some false := fun w hw => by
        have := hin w hw
        rcases lett3 lo hi w h0 with ⟨z, e⟩ | ⟨z, e⟩ | ⟨_, _, e⟩
        · omega
        · exact .inr e
        · exact .inl e
      exact ⟨one_letter _ _ (.inl rfl) key, one_letter _ _ (.inl rfl) fun w hw => key w (List.mem_cons_of_mem _ hw)⟩
  rcases (show x < y ∨ y < x by omega) with h1 | h1
  · rw [if_pos h1, if_pos h1] at h
    rw [rg_up h1]
    cases e : hl lo hi (x, y) with
    | false => obtain ⟨e1, e2⟩ := out x y h1 h e; rw [e1, e2]; rfl
    | true =>
      rw [hl_iff] at e
      have e := of_decide_eq_true e
      rw [cl_cons lo hi none x, cl_cons lo hi none y, lett_lo e.1, lett_hi h0 e.2]
      show d2 none true + cl lo hi (some true) (y :: r) = b1 true + (d2 none false + cl lo hi (some false) r)
      rw [cl_cons, lett_hi h0 e.2]
      simp [d2, b1]
  · rw [if_neg (by omega), if_neg (by omega)] at h
    rw [rg_down h1]
    cases e : hl lo hi (y, x) with
    | false => obtain ⟨e1, e2⟩ := out y x h1 h e; rw [e1, e2]; rfl
    | true =>
      rw [hl_iff] at e
      have e := of_decide_eq_true e
      rw [cl_cons lo hi none x, cl_cons lo hi none y, lett_lo e.1, lett_hi h0 e.2]
      show d2 none false + cl lo hi (some false) (y :: r) = b1 true + (d2 none true + cl lo hi (some true) r)
      rw [cl_cons, lett_lo e.1]
      simp [d2, b1]
theorem wide_one {lo hi x y z : Int} (h0 : lo < hi) {r : List Int} (h : (y < x ∧ x < z) ∨ (x < y ∧ z < x)) : cl lo hi none (x :: y :: z :: r) = b1 (hl lo hi (rg x y)) + cl lo hi none (y :: z :: r) := by
  rcases h with ⟨h1, h2⟩ | ⟨h1, h2⟩
  · rw [rg_down h1, hl_iff]
    simp only [cl_cons]
    rcases lett3 lo hi x h0 with ⟨x1, e1⟩ | ⟨x1, e1⟩ | ⟨x1, y1, e1⟩ <;> rcases lett3 lo hi y h0 with ⟨x2, e2⟩ | ⟨x2, e2⟩ | ⟨x2, y2, e2⟩ <;> rcases lett3 lo hi z h0 with ⟨x3, e3⟩ | ⟨x3, e3⟩ | ⟨x3, y3, e3⟩ <;> first
      | (exfalso; omega)
      | (rw [decide_eq_true (by omega), e1, e2, e3]; simp [d2, b1]; done)
      | (rw [decide_eq_false (by omega), e1, e2, e3]; simp [d2, b1]; done)
  · rw [rg_up h1, hl_iff]
    simp only [cl_cons]
    rcases lett3 lo hi x h0 with ⟨x1, e1⟩ | ⟨x1, e1⟩ | ⟨x1, y1, e1⟩ <;> rcases lett3 lo hi y h0 with ⟨x2, e2⟩ | ⟨x2, e2⟩ | ⟨x2, y2, e2⟩ <;> rcases lett3 lo hi z h0 with ⟨x3, e3⟩ | ⟨x3, e3⟩ | ⟨x3, y3, e3⟩ <;> first
      | (exfalso; omega)
      | (rw [decide_eq_true (by omega), e1, e2, e3]; simp [d2, b1]; done)
      | (rw [decide_eq_false (by omega), e1, e2, e3]; simp [d2, b1]; done)
theorem nf_nh {lo hi : Int} (h0 : lo < hi) : ∀ (ps : List Int), ZZ ps → NF ps → cl lo hi none ps = nh lo hi (sw ps)
  | [], _, _ => rfl
  | [x], _, _ => by
    rw [cl_cons]
    cases lett lo hi x <;> rfl
  | [x, y], zz, _ => by
    have zz : x ≠ y := zz
    show _ = nh lo hi [rg x y]
    rw [nh_cons, con_one h0 (Con.inside (r := []) (x := x) (y := y) (show Con [x, y] from trivial) zz) zz]
    show _ + cl lo hi none [y] = _ + 0
    rw [cl_cons]
    cases lett lo hi y <;> rfl
  | x :: y :: z :: r, zz, n => by
    have ih := nf_nh h0 (y :: z :: r) zz.2 (fun c q s => n _ _ (.there s))
    show _ = nh lo hi (rg x y :: sw (y :: z :: r))
    rw [nh_cons, ← ih]
    have z1 := zz.1
    by_cases h : (y < x ∧ z ≤ x) ∨ (x < y ∧ x ≤ z)
    · exact con_one h0 (Con.inside (nf_con zz n h) (by omega)) (by omega)
    · exact wide_one h0 (by omega)
/-- the changes of a load are the half-cycles that hold the range -/
theorem chg_count {lo hi : Int} (h0 : lo < hi) {ns rs : List Int} {cs : List (Int × Int)} (h : Run (tp ns) cs rs) (n : NF rs) : chg ns lo hi = 2 * nh lo hi cs + nh lo hi (sw rs) := by
  rw [← cl_tp h0, cl_run h0 h (tp_zz ns), nf_nh h0 rs (h.zz (tp_zz ns)) n]
  omega
/-! just a range: the second difference -/
theorem just_one (lo hi : Int) (r : Int × Int) : b1 (decide (r = (lo, hi))) + b1 (hl (lo - 1) hi r) + b1 (hl lo (hi + 1) r) = b1 (hl lo hi r) + b1 (hl (lo - 1) (hi + 1) r) := by
  obtain ⟨u, v⟩ := r
  simp only [hl_iff]
  have e : decide ((u, v) = (lo, hi)) = decide (u = lo ∧ v = hi) := by simp
  rw [e]
  simp only [b1, decide_eq_true_eq]
  repeat' split
  all_goals omega
theorem just {lo hi : Int} : ∀ rs : List (Int × Int), rs.count (lo, hi) + nh (lo - 1) hi rs + nh lo (hi + 1) rs = nh lo hi rs + nh (lo - 1) (hi + 1) rs
  | [] => rfl
  | r :: rs => by
    have ih := just (lo := lo) (hi := hi) rs
    have h1 := just_one lo hi r
    rw [nh_cons, nh_cons, nh_cons, nh_cons, List.count_cons]
    have e : (if (r == (lo, hi)) = true then 1 else 0) = b1 (decide (r = (lo, hi))) := by
      unfold b1
      by_cases z : r = (lo, hi)
      · simp [z]
      · simp [z]
    rw [e]
    omega
end RC

/-! the half-cycles of two loads are the same exactly if their changes are -/
namespace RE
open KM PM RM RN RC
/-- of a load: its half-cycles, sorted -/
structure Hc (ns : List Int) (es : List (Int × Int)) : Prop where
  ex : ∃ cs ds rs, Run (tp ns) cs rs ∧ NF rs ∧ ds.Perm cs ∧ es.Perm (ds ++ ds ++ sw rs)
  srt : es.Pairwise Le
theorem Hc.chg {ns : List Int} {es : List (Int × Int)} (h : Hc ns es) {lo hi : Int} (h0 : lo < hi) : chg ns lo hi = nh lo hi es := by
  obtain ⟨cs, ds, rs, run, nf, p1, p2⟩ := h.ex
  rw [chg_count h0 run nf, nh_perm p2, nh_app, nh_app, nh_perm p1]
  omega
/-- every half-cycle lies within the readings -/
def InR (u v : Int) (r : Int × Int) : Prop := u ≤ r.1 ∧ r.1 < r.2 ∧ r.2 ≤ v
theorem rg_in {u v a b : Int} (ha : u ≤ a ∧ a ≤ v) (hb : u ≤ b ∧ b ≤ v) (ne : a ≠ b) : InR u v (rg a b) := by
  rcases (show a < b ∨ b < a by omega) with h | h
  · rw [rg_up h]; exact ⟨ha.1, h, hb.2⟩
  · rw [rg_down h]; exact ⟨hb.1, h, ha.2⟩
theorem step_in {u v : Int} {p q : List Int} {c : Int × Int} (h : Step p c q) : ZZ p → (∀ x ∈ p, u ≤ x ∧ x ≤ v) → InR u v c ∧ ∀ x ∈ q, u ≤ x ∧ x ≤ v := by
  induction h with
  | @here a b c d post t =>
    intro z hb
    have z1 := z.1
    refine ⟨rg_in (hb b (by simp)) (hb c (by simp)) (by omega), fun x hx => ?_⟩
    rcases List.mem_cons.mp hx with e | hx
    · exact hb x (by simp [e])
    · rcases List.mem_cons.mp hx with e | hx
      · exact hb x (by simp [e])
      · exact hb x (by simp [hx])
  | @there x p q cy s ih =>
    intro z hb
    obtain ⟨h1, h2⟩ := ih z.tail fun y hy => hb y (List.mem_cons_of_mem _ hy)
    refine ⟨h1, fun y hy => ?_⟩
    rcases List.mem_cons.mp hy with e | hy
    · exact hb y (by simp [e])
    · exact h2 y hy
theorem run_in {u v : Int} {p q : List Int} {cs : List (Int × Int)} (h : Run p cs q) : ZZ p → (∀ x ∈ p, u ≤ x ∧ x ≤ v) → (∀ c ∈ cs, InR u v c) ∧ ∀ x ∈ q, u ≤ x ∧ x ≤ v := by
  induction h with
  | nil p => exact fun _ hb => ⟨fun _ z => (List.not_mem_nil z).elim, hb⟩
  | cons s _ ih =>
    intro z hb
    obtain ⟨h1, h2⟩ := step_in s z hb
    obtain ⟨h3, h4⟩ := ih (ZZ.step s z) h2
    refine ⟨fun c hc => ?_, h4⟩
    rcases List.mem_cons.mp hc with e | hc
    · rw [e]; exact h1
    · exact h3 c hc
theorem sw_in {u v : Int} : ∀ {ps : List Int}, ZZ ps → (∀ x ∈ ps, u ≤ x ∧ x ≤ v) → ∀ r ∈ sw ps, InR u v r
  | [], _, _, r, h => by simp [sw] at h
  | [_], _, _, r, h => by simp [sw] at h
  | x :: y :: l, z, hb, r, h => by
    rcases List.mem_cons.mp (show r ∈ rg x y :: sw (y :: l) from h) with e | h
    · rw [e]; exact rg_in (hb x (by simp)) (hb y (by simp)) (zz_cons z)
    · exact sw_in z.tail (fun w hw => hb w (List.mem_cons_of_mem _ hw)) r h
theorem Hc.inr {u v : Int} {ns : List Int} {es : List (Int × Int)} (h : Hc ns es) (hb : ∀ x ∈ ns, u ≤ x ∧ x ≤ v) : ∀ r ∈ es, InR u v r := by
  obtain ⟨cs, ds, rs, run, nf, p1, p2⟩ := h.ex
  obtain ⟨h1, h2⟩ := run_in run (tp_zz ns) fun x hx => hb x (tp_mem hx)
  intro r hr
  rcases List.mem_append.mp (p2.mem_iff.mp hr) with z | z
  · rcases List.mem_append.mp z with z | z
    · exact h1 r (p1.mem_iff.mp z)
    · exact h1 r (p1.mem_iff.mp z)
  · exact sw_in (run.zz (tp_zz ns)) h2 r z
/-- two loads within u..v -/
theorem same_iff {u v : Int} {ns ms : List Int} {es fs : List (Int × Int)} (h : Hc ns es) (g : Hc ms fs) (hb : ∀ x ∈ ns, u ≤ x ∧ x ≤ v) (gb : ∀ x ∈ ms, u ≤ x ∧ x ≤ v) :
    es = fs ↔ ∀ lo hi : Int, u - 1 ≤ lo → lo < hi → hi ≤ v + 1 → KM.chg ns lo hi = KM.chg ms lo hi := by
  constructor
  · intro e lo hi _ h0 _
    rw [h.chg h0, g.chg h0, e]
  · intro e
    refine sorted_same (List.perm_iff_count.mpr fun r => ?_) h.srt g.srt
    obtain ⟨lo, hi⟩ := r
    by_cases z : u ≤ lo ∧ lo < hi ∧ hi ≤ v
    · have j1 := just (lo := lo) (hi := hi) es
      have j2 := just (lo := lo) (hi := hi) fs
      have k : ∀ a b : Int, u - 1 ≤ a → a < b → b ≤ v + 1 → nh a b es = nh a b fs := fun a b h1 h2 h3 => by rw [← h.chg h2, ← g.chg h2, e a b h1 h2 h3]
      have k1 := k lo hi (by omega) (by omega) (by omega)
      have k2 := k (lo - 1) hi (by omega) (by omega) (by omega)
      have k3 := k lo (hi + 1) (by omega) (by omega) (by omega)
      have k4 := k (lo - 1) (hi + 1) (by omega) (by omega) (by omega)
      omega
    · rw [List.count_eq_zero.mpr fun m => z (show u ≤ lo ∧ lo < hi ∧ hi ≤ v from h.inr hb (lo, hi) m), List.count_eq_zero.mpr fun m => z (show u ≤ lo ∧ lo < hi ∧ hi ≤ v from g.inr gb (lo, hi) m)]
end RE

/-! loads turned round, mapped, repeated, thinned: mathematics -/
namespace K9
open KM PM RM RN RC RE
/-! ### turning points of a load turned round -/
theorem tq_same : ∀ (pre : List Int) (p q x : Int) (post : List Int), tq p q (pre ++ x :: x :: post) = tq p q (pre ++ x :: post)
  | [], p, q, x, post => by
    show tq p q (x :: x :: post) = tq p q (x :: post)
    simp only [tq]
    by_cases e : q = x
    · subst e
      simp only [if_true]
    · rw [if_neg e, if_neg e]
      simp only [if_true]
  | y :: pre, p, q, x, post => by
    show tq p q (y :: (pre ++ x :: x :: post)) = tq p q (y :: (pre ++ x :: post))
    simp only [tq, tq_same pre]
theorem tq_btw0 {p b a r : Int} (post : List Int) (h : Btw a b r) : tq p b (a :: r :: post) = tq p b (r :: post) := by
  have h1 : ¬ b = a := by omega
  have h2 : ¬ b = r := by omega
  have h3 : ¬ a = r := by omega
  simp only [tq]
  rw [if_neg h1, if_neg h2]
  by_cases c : Btw b p a
  · rw [if_pos c, if_neg h3, if_pos (show Btw a p r by omega), if_pos (show Btw b p r by omega)]
  · rw [if_neg c, if_neg (show ¬ Btw b p r by omega)]
    rw [if_neg h3, if_pos h]
theorem tq_btw : ∀ (pre : List Int) (p q b a r : Int) (post : List Int), Btw a b r → tq p q (pre ++ b :: a :: r :: post) = tq p q (pre ++ b :: r :: post)
  | [], p, q, b, a, r, post, h => by
    show tq p q (b :: a :: r :: post) = tq p q (b :: r :: post)
    have k : ∀ s, tq s b (a :: r :: post) = tq s b (r :: post) := fun s => tq_btw0 post h
    rw [tq, k, k]
    rw [tq.eq_2 p q b (r :: post)]
    by_cases e : q = b
    · rw [if_pos e, if_pos e]
      subst e
      exact k p
    · rw [if_neg e, if_neg e]
  | y :: pre, p, q, b, a, r, post, h => by
    show tq p q (y :: (pre ++ b :: a :: r :: post)) = tq p q (y :: (pre ++ b :: r :: post))
    simp only [tq, tq_btw pre _ _ b a r post h]
theorem ts_same : ∀ (pre : List Int) (q x : Int) (post : List Int), ts q (pre ++ x :: x :: post) = ts q (pre ++ x :: post)
  | [], q, x, post => by
    show ts q (x :: x :: post) = ts q (x :: post)
    simp only [ts]
    by_cases e : q = x
    · subst e
      simp only [if_true]
    · rw [if_neg e, if_neg e]
      simp only [tq, if_true]
  | y :: pre, q, x, post => by
    show ts q (y :: (pre ++ x :: x :: post)) = ts q (y :: (pre ++ x :: post))
    simp only [ts, ts_same pre, tq_same pre]
theorem ts_btw0 {b a r : Int} (post : List Int) (h : Btw a b r) : ts b (a :: r :: post) = ts b (r :: post) := by
  simp only [ts]
  rw [if_neg (show ¬ b = a by omega), if_neg (show ¬ b = r by omega)]
  simp only [tq]
  rw [if_neg (show ¬ a = r by omega), if_pos h]
theorem ts_btw : ∀ (pre : List Int) (q b a r : Int) (post : List Int), Btw a b r → ts q (pre ++ b :: a :: r :: post) = ts q (pre ++ b :: r :: post)
  | [], q, b, a, r, post, h => by
    show ts q (b :: a :: r :: post) = ts q (b :: r :: post)
    rw [ts, tq_btw0 post h]
    rw [ts.eq_2 q b (r :: post)]
    by_cases e : q = b
    · rw [if_pos e, if_pos e]
      subst e
      exact ts_btw0 post h
    · rw [if_neg e, if_neg e]
  | y :: pre, q, b, a, r, post, h => by
    show ts q (y :: (pre ++ b :: a :: r :: post)) = ts q (y :: (pre ++ b :: r :: post))
    simp only [ts, ts_btw pre _ b a r post h, tq_btw pre _ _ b a r post h]
theorem tp_same (pre : List Int) (x : Int) (post : List Int) : tp (pre ++ x :: x :: post) = tp (pre ++ x :: post) := by
  cases pre with
  | nil =>
    show ts x (x :: post) = ts x post
    simp only [ts, if_true]
  | cons y pre => exact ts_same pre y x post
theorem tp_btw (pre : List Int) {b a r : Int} (post : List Int) (h : Btw a b r) : tp (pre ++ b :: a :: r :: post) = tp (pre ++ b :: r :: post) := by
  cases pre with
  | nil => exact ts_btw0 post h
  | cons y pre => exact ts_btw pre y b a r post h
/-- a reading left out that is no turning point -/
inductive Red : List Int → List Int → Prop
  | nil (l : List Int) : Red l l
  | same (pre : List Int) (x : Int) (post : List Int) {m : List Int} : Red (pre ++ x :: post) m → Red (pre ++ x :: x :: post) m
  | btw (pre : List Int) {b a r : Int} (post : List Int) {m : List Int} : Btw a b r → Red (pre ++ b :: r :: post) m → Red (pre ++ b :: a :: r :: post) m
theorem Red.tp {l m : List Int} (h : Red l m) : tp l = tp m := by
  induction h with
  | nil l => rfl
  | same pre x post _ ih => rw [tp_same, ih]
  | btw pre post hb _ ih => rw [tp_btw pre post hb, ih]
theorem Red.cons {l m : List Int} (h : Red l m) (y : Int) : Red (y :: l) (y :: m) := by
  induction h with
  | nil l => exact .nil _
  | same pre x post _ ih => exact .same (y :: pre) x post ih
  | btw pre post hb _ ih => exact .btw (y :: pre) post hb ih
theorem Red.trans {l m n : List Int} (h : Red l m) (g : Red m n) : Red l n := by
  induction h with
  | nil l => exact g
  | same pre x post _ ih => exact .same pre x post (ih g)
  | btw pre post hb _ ih => exact .btw pre post hb (ih g)
theorem Red.rev {l m : List Int} (h : Red l m) : Red l.reverse m.reverse := by
  induction h with
  | nil l => exact .nil _
  | same pre x post _ ih =>
    have e1 : (pre ++ x :: x :: post).reverse = post.reverse ++ x :: x :: pre.reverse := by simp
    have e2 : (pre ++ x :: post).reverse = post.reverse ++ x :: pre.reverse := by simp
    rw [e1]
    rw [e2] at ih
    exact .same _ x _ ih
  | @btw pre b a r post m hb _ ih =>
    have e1 : (pre ++ b :: a :: r :: post).reverse = post.reverse ++ r :: a :: b :: pre.reverse := by simp
    have e2 : (pre ++ b :: r :: post).reverse = post.reverse ++ r :: b :: pre.reverse := by simp
    rw [e1]
    rw [e2] at ih
    exact .btw _ _ (by omega) ih
theorem red_tq : ∀ (l : List Int) (b a : Int), Red (b :: a :: l) (b :: tq b a l)
  | [], b, a => .nil _
  | r :: l, b, a => by
    simp only [tq]
    by_cases e : a = r
    · rw [if_pos e]
      subst e
      exact .same [b] a l (red_tq l b a)
    · rw [if_neg e]
      by_cases c : Btw a b r
      · rw [if_pos c]
        exact .btw [] l c (red_tq l b r)
      · rw [if_neg c]
        exact (red_tq l a r).cons b
theorem red_ts : ∀ (l : List Int) (a : Int), Red (a :: l) (ts a l)
  | [], a => .nil _
  | r :: l, a => by
    simp only [ts]
    by_cases e : a = r
    · rw [if_pos e]
      subst e
      exact .same [] a l (red_ts l a)
    · rw [if_neg e]
      exact red_tq l a r
theorem red_tp (ns : List Int) : Red ns (tp ns) := by
  cases ns with
  | nil => exact .nil _
  | cons a l => exact red_ts l a
theorem zz_snoc : ∀ {l : List Int} {a b c : Int}, ZZ (l ++ [a, b]) → ((a < b ∧ c < b) ∨ (b < a ∧ b < c)) → ZZ (l ++ [a, b, c])
  | [], a, b, c, _, h => ⟨h, by show b ≠ c; omega⟩
  | [x], a, b, c, z, h => ⟨z.1, h, by show b ≠ c; omega⟩
  | [x, y], a, b, c, z, h => ⟨z.1, z.2.1, h, by show b ≠ c; omega⟩
  | x :: y :: w :: l, a, b, c, z, h => ⟨z.1, zz_snoc (l := y :: w :: l) z.2 h⟩
theorem zz_rev : ∀ {l : List Int}, ZZ l → ZZ l.reverse
  | [], _ => trivial
  | [x], _ => trivial
  | [x, y], z => fun e => z e.symm
  | x :: y :: w :: l, z => by
    have ih := zz_rev (l := y :: w :: l) z.2
    have e : (x :: y :: w :: l).reverse = l.reverse ++ [w, y, x] := by simp
    have e2 : (y :: w :: l).reverse = l.reverse ++ [w, y] := by simp
    rw [e]
    rw [e2] at ih
    exact zz_snoc ih (by have := z.1; omega)
theorem tp_rev (ns : List Int) : tp ns.reverse = (tp ns).reverse := by
  rw [(red_tp ns).rev.tp, zz_tp (zz_rev (tp_zz ns))]
theorem rg_comm (a b : Int) : rg a b = rg b a := by unfold rg; rw [Prod.mk.injEq]; constructor <;> split <;> split <;> omega
theorem taken_rev {a b c d : Int} (h : Taken a b c d) : Taken d c b a := by
  unfold Taken at *
  rw [rg_comm d c, rg_comm c b, rg_comm b a]
  exact ⟨h.2, h.1⟩
theorem step_rev {p q : List Int} {c : Int × Int} (h : Step p c q) : Step p.reverse c q.reverse := by
  induction h with
  | @here a b c d post t =>
    have e1 : (a :: b :: c :: d :: post).reverse = post.reverse ++ [d, c, b, a] := by simp
    have e2 : (a :: d :: post).reverse = post.reverse ++ [d, a] := by simp
    rw [e1, e2, rg_comm b c]
    exact (Step.here (post := []) (taken_rev t)).prefix _
  | @there x p q cy s ih =>
    rw [List.reverse_cons, List.reverse_cons]
    exact ih.suffix [x]
theorem run_rev {p q : List Int} {cs : List (Int × Int)} (h : Run p cs q) : Run p.reverse cs q.reverse := by
  induction h with
  | nil p => exact .nil _
  | cons s _ ih => exact .cons (step_rev s) ih
theorem nf_rev {p : List Int} (h : NF p) : NF p.reverse := fun c q s => by
  have := step_rev s
  rw [List.reverse_reverse] at this
  exact h _ _ this
/-- one count, its cycles sorted -/
structure Cn (ns : List Int) (ds : List (Int × Int)) (rs : List Int) : Prop where
  ex : ∃ cs, Run (tp ns) cs rs ∧ ds.Perm cs
  nf : NF rs
  srt : ds.Pairwise Le
theorem cn_one {ns ms : List Int} {ds es : List (Int × Int)} {rs ss : List Int} (e : tp ns = tp ms) (h : Cn ns ds rs) (g : Cn ms es ss) : ds = es ∧ rs = ss := by
  obtain ⟨cs, r1, p1⟩ := h.ex
  obtain ⟨cs2, r2, p2⟩ := g.ex
  rw [e] at r1
  obtain ⟨e1, e2⟩ := one_count (tp_zz ms) r1 h.nf r2 g.nf
  exact ⟨sorted_same (p1.trans (e2.trans p2.symm)) h.srt g.srt, e1⟩
theorem cn_rev {ns : List Int} {ds es : List (Int × Int)} {rs ss : List Int} (h : Cn ns ds rs) (g : Cn ns.reverse es ss) : es = ds ∧ ss = rs.reverse := by
  obtain ⟨cs, r1, p1⟩ := h.ex
  obtain ⟨cs2, r2, p2⟩ := g.ex
  have r3 := run_rev r1
  rw [← tp_rev] at r3
  obtain ⟨e1, e2⟩ := one_count (tp_zz _) r2 g.nf r3 (nf_rev h.nf)
  exact ⟨sorted_same (p2.trans (e2.trans p1.symm)) g.srt h.srt, e1⟩
/-! ### a load moved, stretched, negated -/
def Str (f : Int → Int) : Prop := (∀ a b, a < b ↔ f a < f b) ∨ (∀ a b, a < b ↔ f b < f a)
theorem str_eq {f : Int → Int} (h : Str f) (a b : Int) : a = b ↔ f a = f b := by
  rcases h with h | h
  · have h1 := h a b
    have h2 := h b a
    omega
  · have h1 := h a b
    have h2 := h b a
    omega
theorem str_btw {f : Int → Int} (h : Str f) (r b a : Int) : Btw r b a ↔ Btw (f r) (f b) (f a) := by
  unfold Btw
  rcases h with h | h
  · rw [h b r, h r a, h a r, h r b]
  · rw [h b r, h r a, h a r, h r b]
    omega
theorem tq_map {f : Int → Int} (h : Str f) : ∀ (l : List Int) (b a : Int), tq (f b) (f a) (l.map f) = (tq b a l).map f
  | [], _, _ => rfl
  | r :: l, b, a => by
    simp only [tq, List.map_cons]
    by_cases e : a = r
    · rw [if_pos e, if_pos ((str_eq h a r).mp e)]
      exact tq_map h l b a
    · rw [if_neg e, if_neg (fun z => e ((str_eq h a r).mpr z))]
      by_cases c : Btw a b r
      · rw [if_pos c, if_pos ((str_btw h a b r).mp c)]
        exact tq_map h l b r
      · rw [if_neg c, if_neg (fun z => c ((str_btw h a b r).mpr z)), List.map_cons, tq_map h l a r]
theorem ts_map {f : Int → Int} (h : Str f) : ∀ (l : List Int) (a : Int), ts (f a) (l.map f) = (ts a l).map f
  | [], _ => rfl
  | r :: l, a => by
    simp only [ts, List.map_cons]
    by_cases e : a = r
    · rw [if_pos e, if_pos ((str_eq h a r).mp e)]
      exact ts_map h l a
    · rw [if_neg e, if_neg (fun z => e ((str_eq h a r).mpr z)), List.map_cons, tq_map h l a r]
theorem tp_map {f : Int → Int} (h : Str f) (ns : List Int) : tp (ns.map f) = (tp ns).map f := by
  cases ns with
  | nil => rfl
  | cons a l => exact ts_map h l a
def mp (f : Int → Int) (r : Int × Int) : Int × Int := rg (f r.1) (f r.2)
theorem rg_map {f : Int → Int} (h : Str f) (a b : Int) : rg (f a) (f b) = mp f (rg a b) := by
  rcases Int.lt_trichotomy a b with z | z | z
  · unfold mp; rw [rg_up z]
  · subst z
    unfold mp rg
    simp
  · unfold mp; rw [rg_down z, rg_comm]
theorem taken_map {f : Int → Int} (h : Str f) {a b c d : Int} (t : Taken a b c d) : Taken (f a) (f b) (f c) (f d) := by
  unfold Taken at *
  rw [rg_map h a b, rg_map h b c, rg_map h c d]
  have key : ∀ u v x y : Int, u ≤ v → x ≤ y → u ≤ x → y ≤ v → ((mp f (u, v)).1 ≤ (mp f (x, y)).1 ∧ (mp f (x, y)).2 ≤ (mp f (u, v)).2) := by
    intro u v x y h1 h2 h3 h4
    have m : ∀ p q, p ≤ q → (f p ≤ f q ∨ f q ≤ f p) := fun p q _ => Int.le_total _ _
    unfold mp rg
    rcases h with h | h
    · have a1 := h v u; have a2 := h y x; have a3 := h x u; have a4 := h v y
      dsimp only
      repeat' split
      all_goals omega
    · have a1 := h v u; have a2 := h y x; have a3 := h x u; have a4 := h v y
      have a5 := h u v; have a6 := h x y; have a7 := h u x; have a8 := h y v
      dsimp only
      repeat' split
      all_goals omega
  have le : ∀ p q : Int, (rg p q).1 ≤ (rg p q).2 := by
    intro p q
    unfold rg
    dsimp only
    split <;> split <;> omega
  exact ⟨key _ _ _ _ (le a b) (le b c) t.1.1 t.1.2, key _ _ _ _ (le c d) (le b c) t.2.1 t.2.2⟩
theorem taken_back {f : Int → Int} (h : Str f) {a b c d : Int} (t : Taken (f a) (f b) (f c) (f d)) : Taken a b c d := by
  have key : ∀ p q x y : Int, (rg (f p) (f q)).1 ≤ (rg (f x) (f y)).1 ∧ (rg (f x) (f y)).2 ≤ (rg (f p) (f q)).2 → (rg p q).1 ≤ (rg x y).1 ∧ (rg x y).2 ≤ (rg p q).2 := by
    intro p q x y
    unfold rg
    rcases h with h | h
    · have a1 := h p q; have a2 := h q p; have a3 := h x y; have a4 := h y x
      have b1 := h p x; have b2 := h x p; have b3 := h p y; have b4 := h y p
      have c1 := h q x; have c2 := h x q; have c3 := h q y; have c4 := h y q
      dsimp only
      repeat' split
      all_goals omega
    · have a1 := h p q; have a2 := h q p; have a3 := h x y; have a4 := h y x
      have b1 := h p x; have b2 := h x p; have b3 := h p y; have b4 := h y p
      have c1 := h q x; have c2 := h x q; have c3 := h q y; have c4 := h y q
      dsimp only
      repeat' split
      all_goals omega
  exact ⟨key _ _ _ _ t.1, key _ _ _ _ t.2⟩
theorem step_map {f : Int → Int} (h : Str f) {p q : List Int} {c : Int × Int} (s : Step p c q) : Step (p.map f) (mp f c) (q.map f) := by
  induction s with
  | @here a b c d post t =>
    rw [← rg_map h]
    exact .here (taken_map h t)
  | there _ ih => exact .there ih
theorem run_map {f : Int → Int} (h : Str f) {p q : List Int} {cs : List (Int × Int)} (r : Run p cs q) : Run (p.map f) (cs.map (mp f)) (q.map f) := by
  induction r with
  | nil p => exact .nil _
  | cons s _ ih => exact .cons (step_map h s) ih
theorem step_back {f : Int → Int} (h : Str f) {p' q : List Int} {c : Int × Int} (s : Step p' c q) : ∀ {p : List Int}, p' = p.map f → ∃ c' q', Step p c' q' := by
  induction s with
  | @here a b c d post t =>
    intro p e
    match p, e with
    | a' :: b' :: c' :: d' :: post', e =>
      simp only [List.map_cons, List.cons.injEq] at e
      obtain ⟨e1, e2, e3, e4, _⟩ := e
      subst e1 e2 e3 e4
      exact ⟨_, _, .here (taken_back h t)⟩
    | [], e => simp at e
    | [_], e => simp at e
    | [_, _], e => simp at e
    | [_, _, _], e => simp at e
  | @there x p1 q1 cy s ih =>
    intro p e
    match p, e with
    | x' :: p', e =>
      rw [List.map_cons] at e
      obtain ⟨c', q', s'⟩ := ih (List.cons.inj e).2
      exact ⟨c', _, .there s'⟩
    | [], e => simp at e
theorem nf_map {f : Int → Int} (h : Str f) {p : List Int} (n : NF p) : NF (p.map f) := fun c q s => by
  obtain ⟨c', q', s'⟩ := step_back h s rfl
  exact n _ _ s'
theorem cn_map {f : Int → Int} (h : Str f) {ns : List Int} {ds es fs : List (Int × Int)} {rs ss : List Int} (g : Cn ns ds rs) (k : Cn (ns.map f) es ss) (p : fs.Perm (ds.map (mp f))) (srt : fs.Pairwise Le) : es = fs ∧ ss = rs.map f := by
  obtain ⟨cs, r1, p1⟩ := g.ex
  obtain ⟨cs2, r2, p2⟩ := k.ex
  have r3 := run_map h r1
  rw [← tp_map h] at r3
  obtain ⟨e1, e2⟩ := one_count (tp_zz _) r2 k.nf r3 (nf_map h g.nf)
  exact ⟨sorted_same (p2.trans (e2.trans ((p1.symm.map _).trans p.symm))) k.srt srt, e1⟩
theorem str_aff {s t : Int} (h : s ≠ 0) : Str fun x => x * s + t := by
  rcases (show 0 < s ∨ s < 0 by omega) with z | z
  · refine .inl fun a b => ?_
    have := Int.mul_lt_mul_right (a := s) (b := a) (c := b) z
    dsimp only
    omega
  · refine .inr fun a b => ?_
    have := Int.mul_lt_mul_right (a := -s) (b := a) (c := b) (by omega)
    rw [Int.mul_neg, Int.mul_neg] at this
    dsimp only
    omega
/-! ### readings repeated -/
theorem tp_rep : ∀ (m : Nat) (pre : List Int) (x : Int), tp (pre ++ List.replicate (m + 1) x) = tp (pre ++ [x])
  | 0, pre, x => rfl
  | m + 1, pre, x => by
    have := tp_same pre x (List.replicate m x)
    rw [show pre ++ List.replicate (m + 1 + 1) x = pre ++ x :: x :: List.replicate m x from rfl, this]
    exact tp_rep m pre x
theorem red_app {l m : List Int} (n : List Int) (h : Red l m) : Red (l ++ n) (m ++ n) := by
  induction h with
  | nil l => exact .nil _
  | same pre x post _ ih =>
    rw [List.append_assoc] at ih ⊢
    exact .same pre x _ ih
  | btw pre post hb _ ih =>
    rw [List.append_assoc] at ih ⊢
    exact .btw pre _ hb ih
/-- what the beginning is, is of no matter if its turning points are the same -/
theorem tp_pre {l m : List Int} (h : tp l = tp m) (n : List Int) : tp (l ++ n) = tp (m ++ n) := by
  rw [(red_app n (red_tp l)).tp, (red_app n (red_tp m)).tp, h]
theorem tp_twice {l m : List Int} (h : tp l = tp m) (k : Nat) (x : Int) : tp (l ++ List.replicate (k + 1) x) = tp (m ++ [x]) := by
  rw [tp_rep, tp_pre h]
/-! ### an upper point lowered -/
theorem cl_sub {lo hi : Int} {l m : List Int} (h : l.Sublist m) (o : Option Bool) : cl lo hi o l ≤ cl lo hi o m := by
  unfold cl
  have h2 : (lets lo hi l).Sublist (lets lo hi m) := h.filterMap _
  cases o with
  | none => exact cnt_mono h2
  | some b => exact cf_mono h2 b
/-- v lies between x and n -/
def Mid (x v n : Int) : Prop := (x ≤ v ∧ v ≤ n) ∨ (n ≤ v ∧ v ≤ x)
theorem mid_let {lo hi x v n : Int} {b : Bool} (h0 : lo < hi) (h : Mid x v n) (e1 : lett lo hi v = some b) (e2 : lett lo hi x ≠ some b) : lett lo hi n = some b := by
  unfold Mid at h
  rcases lett3 lo hi v h0 with ⟨z, e⟩ | ⟨z, e⟩ | ⟨_, _, e⟩ <;> rw [e] at e1 <;> cases e1
  · rcases lett3 lo hi x h0 with ⟨y, e⟩ | ⟨y, e⟩ | ⟨y, y2, e⟩
    · exact absurd e e2
    · exact lett_lo (by omega)
    · exact lett_lo (by omega)
  · rcases lett3 lo hi x h0 with ⟨y, e⟩ | ⟨y, e⟩ | ⟨y, y2, e⟩
    · exact lett_hi h0 (by omega)
    · exact absurd e e2
    · exact lett_hi h0 (by omega)
theorem cl_put {lo hi x v : Int} (h0 : lo < hi) (r : List Int) (hr : ∀ c, r.head? = some c → Mid x v c) (o : Option Bool) (ho : ∀ b, lett lo hi v = some b → lett lo hi x ≠ some b → o = none ∨ o = some b) : cl lo hi o (v :: r) ≤ cl lo hi o (x :: r) := by
  by_cases e : lett lo hi v = lett lo hi x
  · rw [cl_cons, cl_cons, e]
    exact Nat.le_refl _
  · cases ev : lett lo hi v with
    | none =>
      rw [cl_cons, ev]
      exact cl_sub (List.sublist_cons_self _ _) o
    | some b =>
      have ex : lett lo hi x ≠ some b := fun z => e (ev.trans z.symm)
      have d0 : d2 o b = 0 := by
        rcases ho b ev ex with z | z
        · rw [z]; rfl
        · rw [z]; simp [d2]
      rw [cl_cons, ev]
      show d2 o b + cl lo hi (some b) r ≤ _
      rw [d0, Nat.zero_add]
      cases r with
      | nil => rw [cl_nil]; exact Nat.zero_le _
      | cons c r =>
        have ec := mid_let h0 (hr c rfl) ev ex
        have k : cl lo hi o (c :: r) ≤ cl lo hi o (x :: c :: r) := cl_sub (List.sublist_cons_self _ _) o
        refine Nat.le_trans ?_ k
        rw [cl_cons, cl_cons, ec]
        show d2 (some b) b + _ ≤ d2 o b + _
        rw [d0]
        simp [d2]
theorem cl_put_at {lo hi x v : Int} (h0 : lo < hi) (r : List Int) (hr : ∀ c, r.head? = some c → Mid x v c) : ∀ (pre : List Int) (o : Option Bool), (∀ a, pre.getLast? = some a → Mid x v a) → (pre = [] → ∀ b, lett lo hi v = some b → lett lo hi x ≠ some b → o = none ∨ o = some b) → cl lo hi o (pre ++ v :: r) ≤ cl lo hi o (pre ++ x :: r)
  | [], o, _, ho => cl_put h0 r hr o (ho rfl)
  | p :: pre, o, hp, _ => by
    have key : ∀ o', (pre = [] → ∀ b, lett lo hi v = some b → lett lo hi x ≠ some b → o' = none ∨ o' = some b) → cl lo hi o' (pre ++ v :: r) ≤ cl lo hi o' (pre ++ x :: r) := fun o' h' =>
      cl_put_at h0 r hr pre o' (fun a ha => hp a (by
        cases pre with
        | nil => cases ha
        | cons q pre => rw [List.getLast?_cons_cons]; exact ha)) h'
    show cl lo hi o (p :: (pre ++ v :: r)) ≤ cl lo hi o (p :: (pre ++ x :: r))
    rw [cl_cons, cl_cons]
    cases e : lett lo hi p with
    | none =>
      refine key o fun e0 b h1 h2 => ?_
      subst e0
      have := mid_let h0 (hp p rfl) h1 h2
      rw [e] at this
      cases this
    | some b' =>
      refine Nat.add_le_add_left (key _ fun e0 b h1 h2 => .inr ?_) _
      subst e0
      have := mid_let h0 (hp p rfl) h1 h2
      rw [e] at this
      exact this
theorem chg_put_at {lo hi x v : Int} (h0 : lo < hi) {pre r : List Int} (hp : ∀ a, pre.getLast? = some a → Mid x v a) (hr : ∀ c, r.head? = some c → Mid x v c) : chg (pre ++ v :: r) lo hi ≤ chg (pre ++ x :: r) lo hi :=
  cl_put_at h0 r hr pre none hp fun _ _ _ _ => .inl rfl
theorem chg_tp {lo hi : Int} (h0 : lo < hi) (ns : List Int) : chg (tp ns) lo hi = chg ns lo hi := cl_tp h0 ns
theorem zz_three : ∀ {ps : List Int} {j : Nat} {a x c : Int}, ZZ ps → ps[j]? = some a → ps[j + 1]? = some x → ps[j + 2]? = some c → (a < x ∧ c < x) ∨ (x < a ∧ x < c)
  | p :: q :: r :: l, 0, a, x, c, z, h1, h2, h3 => by
    have e1 : p = a := Option.some.inj h1
    have e2 : q = x := Option.some.inj h2
    have e3 : r = c := Option.some.inj h3
    subst e1 e2 e3
    have := z.1
    omega
  | p :: l, j + 1, a, x, c, z, h1, h2, h3 => zz_three (ps := l) (j := j) z.tail h1 h2 h3
  | [], _, _, _, _, _, h, _, _ => by simp at h
  | [_], 0, _, _, _, _, _, h, _ => by simp at h
  | [_, _], 0, _, _, _, _, _, _, h => by simp at h
theorem zz_two : ∀ {ps : List Int} {j : Nat} {a x : Int}, ZZ ps → ps[j]? = some a → ps[j + 1]? = some x → a ≠ x
  | p :: q :: l, 0, a, x, z, h1, h2 => by
    have e1 : p = a := Option.some.inj h1
    have e2 : q = x := Option.some.inj h2
    subst e1 e2
    exact zz_cons z
  | p :: l, j + 1, a, x, z, h1, h2 => zz_two (ps := l) (j := j) z.tail h1 h2
  | [], _, _, _, _, h, _ => by simp at h
  | [_], 0, _, _, _, _, h => by simp at h
/-- near is a neighbour of the point at j, the nearer one -/
def Near (ps : List Int) (j : Nat) (x near : Int) : Prop :=
  (∀ a, 0 < j → ps[j - 1]? = some a → (near - x).natAbs ≤ (a - x).natAbs) ∧ (∀ c, ps[j + 1]? = some c → (near - x).natAbs ≤ (c - x).natAbs) ∧ ((0 < j ∧ ps[j - 1]? = some near) ∨ ps[j + 1]? = some near)
theorem near_mid {ps : List Int} {j : Nat} {x near v : Int} (zz : ZZ ps) (hx : ps[j]? = some x) (hn : Near ps j x near) (hv : Mid x v near) : (∀ a, 0 < j → ps[j - 1]? = some a → Mid x v a) ∧ (∀ c, ps[j + 1]? = some c → Mid x v c) := by
  obtain ⟨n1, n2, n3⟩ := hn
  unfold Mid at *
  refine ⟨fun a hj ha => ?_, fun c hc => ?_⟩
  · have d := n1 a hj ha
    rcases n3 with ⟨_, e⟩ | e
    · rw [ha] at e
      cases e
      exact hv
    · obtain ⟨i, rfl⟩ : ∃ i, j = i + 1 := ⟨j - 1, by omega⟩
      have := zz_three zz ha hx e
      omega
  · have d := n2 c hc
    rcases n3 with ⟨hj, e⟩ | e
    · obtain ⟨i, rfl⟩ : ∃ i, j = i + 1 := ⟨j - 1, by omega⟩
      have := zz_three zz e hx hc
      omega
    · rw [hc] at e
      cases e
      exact hv
theorem lowered {lo hi : Int} (h0 : lo < hi) {ns : List Int} {j : Nat} {x near v : Int} (hx : (tp ns)[j]? = some x) (hn : Near (tp ns) j x near) (hv : Mid x v near) : chg ((tp ns).set j v) lo hi ≤ chg ns lo hi := by
  rw [← chg_tp h0 ns]
  generalize hp : tp ns = ps at *
  have zz : ZZ ps := hp ▸ tp_zz ns
  obtain ⟨m1, m2⟩ := near_mid zz hx hn hv
  obtain ⟨hj, ex⟩ := List.getElem?_eq_some_iff.mp hx
  have e1 : ps.set j v = ps.take j ++ v :: ps.drop (j + 1) := by rw [List.set_eq_take_append_cons_drop, if_pos hj]
  have e2 : ps.take j ++ x :: ps.drop (j + 1) = ps := by
    rw [← ex, ← List.drop_eq_getElem_cons hj, List.take_append_drop]
  rw [e1]
  refine Nat.le_trans (chg_put_at h0 (x := x) (v := v) (fun a ha => ?_) (fun c hc => ?_)) (Nat.le_of_eq (by rw [e2]))
  · rw [List.getLast?_eq_getElem?, List.length_take, Nat.min_eq_left (by omega)] at ha
    by_cases z : 0 < j
    · rw [List.getElem?_take] at ha
      rw [if_pos (by omega)] at ha
      exact m1 a z ha
    · have : j = 0 := by omega
      subst this
      simp at ha
  · rw [List.head?_drop] at hc
    exact m2 c hc
theorem sort_two {ms : List Int} {u v : Int} (p : ms.Perm [u, v]) (s : ms.Pairwise (· ≤ ·)) : ms = [(rg u v).1, (rg u v).2] := by
  have hl := p.length_eq
  match ms, hl with
  | [a, b], _ =>
    have h1 := (p.mem_iff (a := a)).mp (by simp)
    have h2 := (p.mem_iff (a := b)).mp (by simp)
    have h3 := (p.mem_iff (a := u)).mpr (by simp)
    have h4 := (p.mem_iff (a := v)).mpr (by simp)
    simp only [List.mem_cons, List.not_mem_nil, or_false] at h1 h2 h3 h4
    have h5 : a ≤ b := by simpa using s
    unfold rg
    dsimp only
    have e1 : a = if v < u then v else u := by split <;> omega
    have e2 : b = if v > u then v else u := by split <;> omega
    rw [← e1, ← e2]
end K9

/-! loads repeated for ever: mathematics -/
namespace K20
open KM PM RM RN RC RE K9
/-! ### changes round the circle -/
def dif (a b : Option Bool) : Nat := match a, b with
  | some x, some y => if x = y then 0 else 1
  | _, _ => 0
/-- the number of letters that differ from the one before, round the circle -/
def cyc (l : List Bool) : Nat := cnt l + dif l.getLast? l.head?
theorem cf_app : ∀ (l : List Bool) (a : Bool) (m : List Bool), cf a (l ++ m) = cf a l + cfO (some ((a :: l).getLast (by simp))) m
  | [], a, m => by show cf a m = 0 + cf a m; omega
  | b :: l, a, m => by
    have ih := cf_app l b m
    show (if a = b then 0 else 1) + cf b (l ++ m) = (if a = b then 0 else 1) + cf b l + cfO (some ((a :: b :: l).getLast (by simp))) m
    rw [ih, List.getLast_cons (a := a) (l := b :: l) (by simp)]
    omega
theorem cnt_app (l m : List Bool) : cnt (l ++ m) = cnt l + dif l.getLast? m.head? + cnt m := by
  cases l with
  | nil => show cnt m = 0 + 0 + cnt m; omega
  | cons a l =>
    show cf a (l ++ m) = cf a l + _ + cnt m
    rw [cf_app]
    rw [List.getLast?_eq_some_getLast (l := a :: l) (by simp)]
    cases m with
    | nil => rfl
    | cons b m =>
      show cf a l + ((if (a :: l).getLast (by simp) = b then 0 else 1) + cf b m) = cf a l + (if (a :: l).getLast (by simp) = b then 0 else 1) + cf b m
      omega
theorem cyc_rot (l m : List Bool) : cyc (l ++ m) = cyc (m ++ l) := by
  unfold cyc
  rw [cnt_app, cnt_app]
  cases l with
  | nil => simp [dif, cnt]
  | cons a l =>
    cases m with
    | nil => simp [dif, cnt]
    | cons b m =>
      have e1 : ((a :: l) ++ (b :: m)).getLast? = (b :: m).getLast? := by rw [List.getLast?_append]; rw [List.getLast?_eq_some_getLast (l := b :: m) (by simp)]; rfl
      have e2 : ((b :: m) ++ (a :: l)).getLast? = (a :: l).getLast? := by rw [List.getLast?_append]; rw [List.getLast?_eq_some_getLast (l := a :: l) (by simp)]; rfl
      rw [e1, e2]
      show _ + dif _ (some b) + _ + dif _ (some a) = _ + dif _ (some a) + _ + dif _ (some b)
      omega
def rnd (lo hi : Int) (ns : List Int) : Nat := cyc (lets lo hi ns)
theorem lets_app (lo hi : Int) (l m : List Int) : lets lo hi (l ++ m) = lets lo hi l ++ lets lo hi m := List.filterMap_append
theorem rnd_rot (lo hi : Int) (l m : List Int) : rnd lo hi (l ++ m) = rnd lo hi (m ++ l) := by
  unfold rnd
  rw [lets_app, lets_app, cyc_rot]
theorem cnt_one : ∀ {l : List Bool} {b : Bool}, (∀ x ∈ l, x = b) → cnt l = 0
  | [], _, _ => rfl
  | [_], _, _ => rfl
  | x :: y :: l, b, h => by
    have ih := cnt_one (l := y :: l) (b := b) fun z hz => h z (List.mem_cons_of_mem _ hz)
    have e1 := h x (by simp)
    have e2 := h y (by simp)
    show (if x = y then 0 else 1) + cf y l = 0
    have ih : cf y l = 0 := ih
    rw [ih, e1, e2, if_pos rfl]
theorem cyc_one {l : List Bool} {b : Bool} (h : ∀ x ∈ l, x = b) : cyc l = 0 := by
  unfold cyc
  rw [cnt_one h]
  cases l with
  | nil => rfl
  | cons a l =>
    rw [List.getLast?_eq_some_getLast (l := a :: l) (by simp)]
    show 0 + (if (a :: l).getLast (by simp) = a then 0 else 1) = 0
    rw [h _ (List.getLast_mem (by simp)), h a (by simp), if_pos rfl]
theorem lets_mem {lo hi : Int} {ns : List Int} {b : Bool} (h : b ∈ lets lo hi ns) : ∃ x ∈ ns, lett lo hi x = some b := List.mem_filterMap.mp h
/-- a load that begins with a greatest reading, and the same behind it -/
theorem rnd_chg {lo hi M : Int} (h0 : lo < hi) {l : List Int} (hm : ∀ x ∈ l, x ≤ M) : rnd lo hi (M :: l) = chg (M :: l ++ [M]) lo hi := by
  unfold rnd chg
  rw [lets_app]
  rcases lett3 lo hi M h0 with ⟨_, e⟩ | ⟨_, e⟩ | ⟨h1, h2, e⟩
  · have el : lets lo hi [M] = [true] := by simp [lets, e]
    have ec : lets lo hi (M :: l) = true :: lets lo hi l := by simp [lets, e]
    rw [el, ec, cnt_app]
    unfold cyc
    rfl
  · have el : lets lo hi [M] = [false] := by simp [lets, e]
    have ec : lets lo hi (M :: l) = false :: lets lo hi l := by simp [lets, e]
    rw [el, ec, cnt_app]
    unfold cyc
    rfl
  · have el : lets lo hi [M] = [] := by simp [lets, e]
    have one : ∀ b ∈ lets lo hi (M :: l), b = true := fun b hb => by
      obtain ⟨x, hx, ex⟩ := lets_mem hb
      have : x ≤ M := by
        rcases List.mem_cons.mp hx with z | z
        · omega
        · exact hm x z
      rcases lett3 lo hi x h0 with ⟨_, e⟩ | ⟨_, e⟩ | ⟨_, _, e⟩ <;> rw [e] at ex
      · exact (Option.some.inj ex).symm
      · omega
      · cases ex
    rw [el, List.append_nil, cyc_one one, cnt_one one]
/-! ### the circle -/
/-- M is the greatest reading, at a for the first time -/
structure Top (ns : List Int) (a : Nat) (M : Int) : Prop where
  at' : ns[a]? = some M
  le : ∀ x ∈ ns, x ≤ M
  first : ∀ j x, j < a → ns[j]? = some x → x ≠ M
theorem Top.one {ns : List Int} {a b : Nat} {M N : Int} (h : Top ns a M) (g : Top ns b N) : a = b ∧ M = N := by
  have e : M = N := by
    have h1 := h.le N (List.mem_of_getElem? g.at')
    have h2 := g.le M (List.mem_of_getElem? h.at')
    omega
  subst e
  refine ⟨?_, rfl⟩
  rcases Nat.lt_trichotomy a b with z | z | z
  · exact absurd rfl (g.first a M z h.at')
  · exact z
  · exact absurd rfl (h.first b M z g.at')
def circ (ns : List Int) (a : Nat) : List Int := ns.drop a ++ ns.take (a + 1)
theorem circ_eq {ns : List Int} {a : Nat} {M : Int} (h : ns[a]? = some M) : circ ns a = M :: (ns.drop (a + 1) ++ ns.take a) ++ [M] := by
  obtain ⟨h1, h2⟩ := List.getElem?_eq_some_iff.mp h
  unfold circ
  rw [List.drop_eq_getElem_cons h1, h2, List.take_add_one, h]
  simp
theorem rnd_circ {lo hi M : Int} (h0 : lo < hi) {ns : List Int} {a : Nat} (t : Top ns a M) : rnd lo hi ns = chg (circ ns a) lo hi := by
  obtain ⟨h1, h2⟩ := List.getElem?_eq_some_iff.mp t.at'
  have e : rnd lo hi ns = rnd lo hi (M :: (ns.drop (a + 1) ++ ns.take a)) := by
    have := rnd_rot lo hi (ns.take a) (ns.drop a)
    rw [List.take_append_drop] at this
    rw [this, List.drop_eq_getElem_cons h1, h2]
    rfl
  rw [e, circ_eq t.at', rnd_chg h0]
  intro x hx
  rcases List.mem_append.mp hx with z | z
  · exact t.le x (List.mem_of_mem_drop z)
  · exact t.le x (List.mem_of_mem_take z)
theorem circ_mem {ns : List Int} {a : Nat} {x : Int} (h : x ∈ circ ns a) : x ∈ ns := by
  rcases List.mem_append.mp h with z | z
  · exact List.mem_of_mem_drop z
  · exact List.mem_of_mem_take z
theorem mem_circ {ns : List Int} {a : Nat} {x : Int} (h : x ∈ ns) : x ∈ circ ns a := by
  have e : ns.take a ++ ns.drop a = ns := List.take_append_drop _ _
  rw [← e] at h
  rcases List.mem_append.mp h with z | z
  · refine List.mem_append_right _ ?_
    rw [List.take_add_one]
    exact List.mem_append_left _ z
  · exact List.mem_append_left _ z
/-! ### first and last points -/
theorem ts_head : ∀ (l : List Int) (a : Int), (ts a l).head? = some a
  | [], _ => rfl
  | r :: l, a => by
    simp only [ts]
    split
    · exact ts_head l a
    · rfl
theorem tq_ne : ∀ (l : List Int) (b a : Int), tq b a l ≠ []
  | [], _, _ => by simp [tq]
  | r :: l, b, a => by
    simp only [tq]
    split
    · exact tq_ne l b a
    · split
      · exact tq_ne l b r
      · simp
theorem tq_lastp : ∀ (l : List Int) (b a : Int), (tq b a l).getLast? = (a :: l).getLast?
  | [], _, _ => rfl
  | r :: l, b, a => by
    rw [List.getLast?_cons_cons]
    simp only [tq]
    split
    · rename_i e
      rw [tq_lastp l b a, e]
    · split
      · exact tq_lastp l b r
      · rename_i n1 n2
        have ne := tq_ne l a r
        obtain ⟨x, s, e⟩ : ∃ x s, tq a r l = x :: s := by
          cases h : tq a r l with
          | nil => exact absurd h ne
          | cons x s => exact ⟨x, s, rfl⟩
        rw [e, List.getLast?_cons_cons, ← e]
        exact tq_lastp l a r
theorem ts_lastp : ∀ (l : List Int) (a : Int), (ts a l).getLast? = (a :: l).getLast?
  | [], _ => rfl
  | r :: l, a => by
    rw [List.getLast?_cons_cons]
    simp only [ts]
    split
    · rename_i e
      rw [ts_lastp l a, e]
    · have ne := tq_ne l a r
      obtain ⟨x, s, e⟩ : ∃ x s, tq a r l = x :: s := by
        cases h : tq a r l with
        | nil => exact absurd h ne
        | cons x s => exact ⟨x, s, rfl⟩
      rw [e, List.getLast?_cons_cons, ← e]
      exact tq_lastp l a r
theorem ts_all : ∀ {l : List Int} {a : Int}, (∀ x ∈ l, x = a) → ts a l = [a]
  | [], _, _ => rfl
  | r :: l, a, h => by
    simp only [ts]
    rw [if_pos (h r (by simp)).symm]
    exact ts_all fun x hx => h x (List.mem_cons_of_mem _ hx)
theorem ts_one : ∀ {l : List Int} {a : Int}, ts a l = [a] → ∀ x ∈ l, x = a
  | [], _, _, x, h => (List.not_mem_nil h).elim
  | r :: l, a, h, x, hx => by
    simp only [ts] at h
    by_cases e : a = r
    · rw [if_pos e] at h
      rcases List.mem_cons.mp hx with z | z
      · rw [z, e]
      · exact ts_one h x z
    · rw [if_neg e] at h
      exact absurd (List.cons.inj h).2 (tq_ne _ _ _)
theorem step_head? {p q : List Int} {c : Int × Int} (s : Step p c q) : q.head? = p.head? := by
  cases s with
  | here _ => rfl
  | there _ => rfl
theorem step_ne {p q : List Int} {c : Int × Int} (s : Step p c q) : q ≠ [] := by
  cases s with
  | here _ => simp
  | there _ => simp
theorem step_last? {p q : List Int} {c : Int × Int} (s : Step p c q) : q.getLast? = p.getLast? := by
  induction s with
  | @here a b c d post t => rw [List.getLast?_cons_cons, List.getLast?_cons_cons, List.getLast?_cons_cons, List.getLast?_cons_cons]
  | @there x p q cy s ih =>
    cases q with
    | nil => exact absurd rfl (step_ne s)
    | cons u v =>
      cases p with
      | nil => cases s
      | cons u' v' => rw [List.getLast?_cons_cons, List.getLast?_cons_cons, ih]
theorem step_sub {p q : List Int} {c : Int × Int} (s : Step p c q) : ∀ x ∈ q, x ∈ p := by
  induction s with
  | @here a b c d post t =>
    intro x hx
    simp only [List.mem_cons] at hx ⊢
    rcases hx with e | e | e
    · exact .inl e
    · exact .inr (.inr (.inr (.inl e)))
    · exact .inr (.inr (.inr (.inr e)))
  | there _ ih =>
    intro y hy
    rcases List.mem_cons.mp hy with e | e
    · exact List.mem_cons.mpr (.inl e)
    · exact List.mem_cons_of_mem _ (ih y e)
theorem step_low {p q : List Int} {c : Int × Int} (s : Step p c q) : ZZ p → ∀ x ∈ p, ∃ y ∈ q, y ≤ x := by
  induction s with
  | @here a b c d post t =>
    intro z x hx
    have ti := (taken_iff z.four).mp t
    simp only [List.mem_cons] at hx
    rcases hx with e | e | e | e | e
    · exact ⟨a, by simp, by omega⟩
    · rcases ti with ti | ti
      · exact ⟨a, by simp, by omega⟩
      · exact ⟨d, by simp, by omega⟩
    · rcases ti with ti | ti
      · exact ⟨a, by simp, by omega⟩
      · exact ⟨d, by simp, by omega⟩
    · exact ⟨d, by simp, by omega⟩
    · exact ⟨x, by simp [e], by omega⟩
  | @there u p q cy s ih =>
    intro z x hx
    rcases List.mem_cons.mp hx with e | e
    · exact ⟨u, by simp, by omega⟩
    · obtain ⟨y, hy, l⟩ := ih z.tail x e
      exact ⟨y, List.mem_cons_of_mem _ hy, l⟩
theorem run_keep {p q : List Int} {cs : List (Int × Int)} (r : Run p cs q) : ZZ p → q.head? = p.head? ∧ q.getLast? = p.getLast? ∧ (∀ x ∈ q, x ∈ p) ∧ ∀ x ∈ p, ∃ y ∈ q, y ≤ x := by
  induction r with
  | nil p => exact fun _ => ⟨rfl, rfl, fun _ h => h, fun x h => ⟨x, h, Int.le_refl _⟩⟩
  | cons s _ ih =>
    intro z
    obtain ⟨h1, h2, h3, h4⟩ := ih (ZZ.step s z)
    refine ⟨h1.trans (step_head? s), h2.trans (step_last? s), fun x hx => step_sub s x (h3 x hx), fun x hx => ?_⟩
    obtain ⟨y, hy, l⟩ := step_low s z x hx
    obtain ⟨y2, hy2, l2⟩ := h4 y hy
    exact ⟨y2, hy2, by omega⟩
theorem last_mem {l : List Int} {x : Int} (h : l.getLast? = some x) : x ∈ l := by
  cases l with
  | nil => cases h
  | cons a l =>
    rw [List.getLast?_eq_some_getLast (l := a :: l) (by simp)] at h
    rw [← Option.some.inj h]
    exact List.getLast_mem (by simp)
/-- the rest of a circle that is cut at a greatest reading -/
theorem rest_three {rs : List Int} {M : Int} (z : ZZ rs) (n : NF rs) (h1 : rs.head? = some M) (h2 : rs.getLast? = some M) (h3 : ∀ x ∈ rs, x ≤ M) : rs = [M] ∨ ∃ m, m < M ∧ rs = [M, m, M] := by
  match rs, h1 with
  | [x], h1 => exact .inl (by rw [show x = M from Option.some.inj h1])
  | [x, y], h1 =>
    have e : x = M := Option.some.inj h1
    have e2 : y = M := Option.some.inj h2
    exact absurd (e.trans e2.symm) z
  | x :: y :: w :: t, h1 =>
    have e : x = M := Option.some.inj h1
    subst e
    have hy := h3 y (by simp)
    have hw := h3 w (by simp)
    have z1 := z.1
    have yx : y < x := by omega
    have con := nf_con z n (.inl ⟨yx, hw⟩)
    have lst : (y :: w :: t).getLast? = some x := by
      have := h2
      rw [List.getLast?_cons_cons] at this
      exact this
    have inn := Con.inside con.2 (by omega)
    have hx := inn x (last_mem lst)
    rw [if_pos (by omega), if_pos (by omega)] at hx
    have ew : w = x := by omega
    subst ew
    cases t with
    | nil => exact .inr ⟨y, yx, rfl⟩
    | cons u t =>
      exfalso
      have c2 := con.2.1
      have hu := h3 u (by simp)
      have nt : ¬ Taken w y w u := fun k => n _ _ (.here k)
      have z4 : ZZ (w :: y :: w :: u :: []) := z.four
      rw [taken_iff z4] at nt
      have uy : y < u := by omega
      cases t with
      | nil =>
        have : u = w := by
          have l2 := h2
          rw [List.getLast?_cons_cons, List.getLast?_cons_cons, List.getLast?_cons_cons] at l2
          exact Option.some.inj l2
        omega
      | cons v t =>
        have c3 := con.2.2.1
        have hv := h3 v (by simp)
        have lst2 : (u :: v :: t).getLast? = some w := by
          have := h2
          rw [List.getLast?_cons_cons, List.getLast?_cons_cons, List.getLast?_cons_cons] at this
          exact this
        have inn2 := Con.inside con.2.2.2 (by omega)
        have hx2 := inn2 w (last_mem lst2)
        rw [if_pos (by omega), if_pos (by omega)] at hx2
        have ev : v = w := by omega
        have nt2 : ¬ Taken y w u v := fun k => n _ _ (.there (.here k))
        rw [taken_iff z.tail.four] at nt2
        omega
/-! ### closed cycles -/
/-- es are the closed cycles of ns -/
structure Cl (ns : List Int) (es : List (Int × Int)) : Prop where
  cnt : ∀ lo hi, lo < hi → rnd lo hi ns = 2 * nh lo hi es
  srt : es.Pairwise Le
  inr : ∀ u v, (∀ x ∈ ns, u ≤ x ∧ x ≤ v) → ∀ r ∈ es, InR u v r
theorem Cl.many {ns : List Int} {es : List (Int × Int)} (h : Cl ns es) {lo hi : Int} (h0 : lo < hi) : (rnd lo hi ns : Int) - rnd (lo - 1) hi ns - rnd lo (hi + 1) ns + rnd (lo - 1) (hi + 1) ns = 2 * (es.count (lo, hi) : Nat) := by
  have j := just (lo := lo) (hi := hi) es
  rw [h.cnt lo hi h0, h.cnt (lo - 1) hi (by omega), h.cnt lo (hi + 1) (by omega), h.cnt (lo - 1) (hi + 1) (by omega)]
  omega
theorem ends_of (ns : List Int) : ∃ u v, ∀ x ∈ ns, u ≤ x ∧ x ≤ v := by
  induction ns with
  | nil => exact ⟨0, 0, fun x h => (List.not_mem_nil h).elim⟩
  | cons a l ih =>
    obtain ⟨u, v, h⟩ := ih
    refine ⟨min u a, max v a, fun x hx => ?_⟩
    rcases List.mem_cons.mp hx with e | e
    · omega
    · have := h x e
      omega
theorem Cl.one {ns : List Int} {es fs : List (Int × Int)} (h : Cl ns es) (g : Cl ns fs) : es = fs := by
  refine sorted_same (List.perm_iff_count.mpr fun r => ?_) h.srt g.srt
  obtain ⟨lo, hi⟩ := r
  by_cases z : lo < hi
  · have h1 := h.many z
    have h2 := g.many z
    omega
  · obtain ⟨u, v, b⟩ := ends_of ns
    rw [List.count_eq_zero.mpr fun m => z (h.inr u v b _ m).2.1, List.count_eq_zero.mpr fun m => z (g.inr u v b _ m).2.1]
theorem Cl.all_eq {ns : List Int} {M : Int} (h : ∀ x ∈ ns, x = M) : Cl ns [] := by
  refine ⟨fun lo hi h0 => ?_, List.Pairwise.nil, fun _ _ _ r z => (List.not_mem_nil z).elim⟩
  show cyc (lets lo hi ns) = 0
  cases e : lett lo hi M with
  | none =>
    refine cyc_one (b := true) fun b hb => ?_
    obtain ⟨x, hx, ex⟩ := lets_mem hb
    rw [h x hx, e] at ex
    cases ex
  | some b' =>
    refine cyc_one (b := b') fun b hb => ?_
    obtain ⟨x, hx, ex⟩ := lets_mem hb
    rw [h x hx, e] at ex
    exact (Option.some.inj ex).symm
/-- the points on the circle -/
def CP (ns ps : List Int) : Prop := (ns = [] ∧ ps = []) ∨ ∃ a M, Top ns a M ∧ ps = (tp (circ ns a)).dropLast
theorem CP.one {ns ps qs : List Int} (h : CP ns ps) (g : CP ns qs) : ps = qs := by
  rcases h with ⟨e, h⟩ | ⟨a, M, t, h⟩
  · rcases g with ⟨_, g⟩ | ⟨b, N, u, _⟩
    · rw [h, g]
    · have := u.at'
      rw [e] at this
      simp at this
  · rcases g with ⟨e, _⟩ | ⟨b, N, u, g⟩
    · have := t.at'
      rw [e] at this
      simp at this
    · rw [h, g, (t.one u).1]
theorem tp_circ {ns : List Int} {a : Nat} {M : Int} (t : Top ns a M) : (tp (circ ns a)).head? = some M ∧ (tp (circ ns a)).getLast? = some M ∧ ∀ x ∈ tp (circ ns a), x ≤ M := by
  have e := circ_eq t.at'
  have e2 : circ ns a = M :: ((ns.drop (a + 1) ++ ns.take a) ++ [M]) := by rw [e]; rfl
  refine ⟨?_, ?_, fun x hx => t.le x (circ_mem (tp_mem hx))⟩
  · rw [e2]
    exact ts_head _ _
  · rw [e2]
    show (ts M _).getLast? = _
    rw [ts_lastp]
    show (M :: (ns.drop (a + 1) ++ ns.take a) ++ [M]).getLast? = some M
    rw [List.getLast?_append]
    rfl
/-- no points on the circle exactly if all readings are equal -/
theorem cp_nil {ns : List Int} {a : Nat} {M : Int} (t : Top ns a M) : (tp (circ ns a)).dropLast = [] ↔ ∀ x ∈ ns, x = M := by
  have e2 : circ ns a = M :: ((ns.drop (a + 1) ++ ns.take a) ++ [M]) := by rw [circ_eq t.at']; rfl
  constructor
  · intro h x hx
    have hh := (tp_circ t).1
    have e : tp (circ ns a) = [M] := by
      match hq : tp (circ ns a), hh, h with
      | [y], hh, _ => rw [show y = M from Option.some.inj hh]
      | y :: w :: l, _, h => simp at h
    rw [e2] at e
    have := ts_one e
    rcases List.mem_cons.mp (e2 ▸ mem_circ (a := a) hx) with z | z
    · exact z
    · exact this x z
  · intro h
    have : tp (circ ns a) = [M] := by
      rw [e2]
      refine ts_all fun x hx => ?_
      refine h x (circ_mem (a := a) ?_)
      rw [e2]
      exact List.mem_cons_of_mem _ hx
    rw [this]
    rfl
theorem drop_last_back {l : List Int} {M : Int} (h : l.getLast? = some M) : l.dropLast ++ [M] = l := by
  cases l with
  | nil => cases h
  | cons a l =>
    rw [List.getLast?_eq_some_getLast (l := a :: l) (by simp)] at h
    rw [← Option.some.inj h]
    exact List.dropLast_concat_getLast (by simp)
theorem mem_dl {l : List Int} {x : Int} (h : x ∈ l.dropLast) : x ∈ l := (List.dropLast_sublist l).subset h
/-- the closed cycles: the cycles from a greatest reading round to it, and one from the least to the greatest -/
theorem cl_of {ns : List Int} {a : Nat} {M m : Int} (t : Top ns a M) (hne : (tp (circ ns a)).dropLast ≠ []) {cs ds es : List (Int × Int)} {rs : List Int} (r : Run (tp (circ ns a)) cs rs) (n : NF rs) (p : ds.Perm cs)
    (hm : m ∈ (tp (circ ns a)).dropLast) (hl : ∀ x ∈ (tp (circ ns a)).dropLast, m ≤ x) (pe : es.Perm (ds ++ [(m, M)])) (srt : es.Pairwise Le) : Cl ns es ∧ m < M := by
  obtain ⟨c1, c2, c3⟩ := tp_circ t
  have zz := tp_zz (circ ns a)
  obtain ⟨k1, k2, k3, k4⟩ := run_keep r zz
  have zr := r.zz zz
  obtain ⟨x0, hx0, nx0⟩ : ∃ x ∈ tp (circ ns a), x ≠ M := by
    by_cases z : ∀ x ∈ ns, x = M
    · exact absurd ((cp_nil t).mpr z) hne
    · obtain ⟨x, hx⟩ := Classical.not_forall.mp z
      obtain ⟨hx1, hx2⟩ := Classical.not_imp.mp hx
      by_cases z2 : ∀ y ∈ tp (circ ns a), y = M
      · have zl : (tp (circ ns a)).dropLast = [] := by
          match hq : tp (circ ns a), zz, z2 with
          | [], _, _ => rfl
          | [y], _, _ => rfl
          | y :: w :: l, zz, z2 => exact absurd ((z2 y (by simp)).trans (z2 w (by simp)).symm) (zz_cons zz)
        exact absurd zl hne
      · obtain ⟨y, hy⟩ := Classical.not_forall.mp z2
        obtain ⟨hy1, hy2⟩ := Classical.not_imp.mp hy
        exact ⟨y, hy1, hy2⟩
  rcases rest_three zr n (k1.trans c1) (k2.trans c2) (fun x hx => c3 x (k3 x hx)) with e | ⟨m', hm', e⟩
  · exfalso
    obtain ⟨y, hy, l⟩ := k4 x0 hx0
    rw [e] at hy
    have := List.mem_singleton.mp hy
    have := c3 x0 hx0
    omega
  · have em' : m' = m := by
      have b := drop_last_back c2
      have h1 : m' ∈ tp (circ ns a) := k3 m' (by rw [e]; simp)
      have h2 : m' ∈ (tp (circ ns a)).dropLast := by
        rw [← b] at h1
        rcases List.mem_append.mp h1 with z | z
        · exact z
        · exact absurd (List.mem_singleton.mp z) (by omega)
      have h3 := hl m' h2
      obtain ⟨y, hy, l⟩ := k4 m (mem_dl hm)
      rw [e] at hy
      simp only [List.mem_cons, List.not_mem_nil, or_false] at hy
      omega
    subst em'
    refine ⟨⟨fun lo hi h0 => ?_, srt, fun u v hb q hq => ?_⟩, hm'⟩
    · rw [rnd_circ h0 t, chg_count h0 r n, nh_perm pe, nh_app, nh_perm p, e]
      show 2 * nh lo hi cs + nh lo hi [rg M m', rg m' M] = _
      rw [rg_down hm', rg_up hm', nh_cons, nh_cons]
      have e0 : nh lo hi [] = 0 := rfl
      rw [e0]
      omega
    · have hb2 : ∀ x ∈ tp (circ ns a), u ≤ x ∧ x ≤ v := fun x hx => hb x (circ_mem (tp_mem hx))
      obtain ⟨i1, _⟩ := run_in r zz hb2
      rcases List.mem_append.mp (pe.mem_iff.mp hq) with z | z
      · exact i1 q (p.mem_iff.mp z)
      · rw [List.mem_singleton.mp z]
        have h1 := hb2 m' (mem_dl hm)
        have h2 := hb2 M (last_mem c2)
        exact ⟨h1.1, hm', h2.2⟩
/-! ### moved -/
theorem lett_mv (s lo hi x : Int) : lett (lo + s) (hi + s) (x + s) = lett lo hi x := by
  unfold lett
  by_cases h1 : x ≤ lo
  · rw [if_pos h1, if_pos (by omega)]
  · rw [if_neg h1, if_neg (by omega)]
    by_cases h2 : hi ≤ x
    · rw [if_pos h2, if_pos (by omega)]
    · rw [if_neg h2, if_neg (by omega)]
theorem lets_mv (s lo hi : Int) : ∀ ns : List Int, lets (lo + s) (hi + s) (ns.map (· + s)) = lets lo hi ns
  | [] => rfl
  | x :: l => by
    have ih := lets_mv s lo hi l
    unfold lets at *
    rw [List.map_cons, List.filterMap_cons, List.filterMap_cons, ih, lett_mv]
def mv (s : Int) (r : Int × Int) : Int × Int := (r.1 + s, r.2 + s)
theorem nh_mv (s lo hi : Int) : ∀ es : List (Int × Int), nh (lo + s) (hi + s) (es.map (mv s)) = nh lo hi es
  | [] => rfl
  | (a, b) :: es => by
    have ih := nh_mv s lo hi es
    rw [List.map_cons, nh_cons, nh_cons, ih]
    congr 1
    unfold mv hl
    dsimp only
    rw [show decide (a + s ≤ lo + s) = decide (a ≤ lo) by rw [decide_eq_decide]; omega, show decide (hi + s ≤ b + s) = decide (hi ≤ b) by rw [decide_eq_decide]; omega]
theorem Cl.mv {ns : List Int} {es : List (Int × Int)} (h : Cl ns es) (s : Int) : Cl (ns.map (· + s)) (es.map (mv s)) := by
  refine ⟨fun lo hi h0 => ?_, ?_, fun u v hb r hr => ?_⟩
  · have e1 := lets_mv s (lo - s) (hi - s) ns
    have e2 := nh_mv s (lo - s) (hi - s) es
    rw [show lo - s + s = lo by omega, show hi - s + s = hi by omega] at e1 e2
    unfold rnd
    rw [e1, e2]
    exact h.cnt _ _ (by omega)
  · rw [List.pairwise_map]
    refine h.srt.imp fun {a b} h => ?_
    unfold K20.mv Le at *
    dsimp only
    omega
  · obtain ⟨r0, h1, h2⟩ := List.mem_map.mp hr
    have i := h.inr (u - s) (v - s) (fun x hx => by
      have := hb (x + s) (List.mem_map.mpr ⟨x, hx, rfl⟩)
      omega) r0 h1
    unfold InR at *
    rw [← h2]
    unfold K20.mv
    dsimp only
    omega
theorem Top.mv {ns : List Int} {a : Nat} {M : Int} (t : Top ns a M) (s : Int) : Top (ns.map (· + s)) a (M + s) := by
  refine ⟨by rw [List.getElem?_map, t.at']; rfl, fun x hx => ?_, fun j x hj hx => ?_⟩
  · obtain ⟨y, hy, e⟩ := List.mem_map.mp hx
    have := t.le y hy
    omega
  · rw [List.getElem?_map] at hx
    cases e : ns[j]? with
    | none => rw [e] at hx; cases hx
    | some y =>
      rw [e] at hx
      have h1 := t.first j y hj e
      have h2 : y + s = x := Option.some.inj hx
      omega
theorem CP.mv {ns ps : List Int} (h : CP ns ps) (s : Int) : CP (ns.map (· + s)) (ps.map (· + s)) := by
  rcases h with ⟨e1, e2⟩ | ⟨a, M, t, e⟩
  · exact .inl ⟨by rw [e1]; rfl, by rw [e2]; rfl⟩
  · refine .inr ⟨a, M + s, t.mv s, ?_⟩
    have st : Str fun x => x + s := .inl fun a b => by dsimp only; omega
    have ec : circ (ns.map (· + s)) a = (circ ns a).map (· + s) := by
      unfold circ
      rw [List.map_append, List.map_drop, List.map_take]
    rw [e, ec]
    have := tp_map st (circ ns a)
    rw [this, List.map_dropLast]
end K20

namespace K20
open KM PM RM RN RC RE K9
/-! ### there are closed cycles -/
def leB (r s : Int × Int) : Bool := decide (Le r s)
theorem sorted_ex (l : List (Int × Int)) : ∃ es : List (Int × Int), es.Perm l ∧ es.Pairwise Le := by
  refine ⟨l.mergeSort leB, List.mergeSort_perm l leB, ?_⟩
  have h := List.pairwise_mergeSort (le := leB) (fun a b c h1 h2 => by
    have h1 := of_decide_eq_true h1
    have h2 := of_decide_eq_true h2
    refine decide_eq_true ?_
    simp only [Le] at *
    omega) (fun a b => by
    by_cases h : Le a b
    · simp [leB, h]
    · have : Le b a := by simp only [Le] at *; omega
      simp [leB, this]) l
  exact h.imp fun h => of_decide_eq_true h
theorem top_ex {ns : List Int} (h : ns ≠ []) : ∃ a M, Top ns a M := by
  have mx : ∀ l : List Int, l ≠ [] → ∃ M ∈ l, ∀ x ∈ l, x ≤ M := by
    intro l
    induction l with
    | nil => exact fun h => absurd rfl h
    | cons a l ih =>
      intro _
      by_cases e : l = []
      · subst e
        exact ⟨a, by simp, fun x hx => by rw [List.mem_singleton.mp hx]; exact Int.le_refl _⟩
      · obtain ⟨M, h1, h2⟩ := ih e
        by_cases c : a ≤ M
        · refine ⟨M, List.mem_cons_of_mem _ h1, fun x hx => ?_⟩
          rcases List.mem_cons.mp hx with z | z
          · omega
          · exact h2 x z
        · refine ⟨a, List.mem_cons_self, fun x hx => ?_⟩
          rcases List.mem_cons.mp hx with z | z
          · omega
          · have := h2 x z
            omega
  obtain ⟨M, hM, hle⟩ := mx ns h
  have fs : ∀ l : List Int, M ∈ l → ∃ j : Nat, l[j]? = some M ∧ ∀ (m : Nat) (z : Int), m < j → l[m]? = some z → z ≠ M := by
    intro l
    induction l with
    | nil => exact fun h => (List.not_mem_nil h).elim
    | cons x l ih =>
      intro hm
      by_cases e : x = M
      · exact ⟨0, by rw [e]; rfl, fun m z hm _ => absurd hm (Nat.not_lt_zero _)⟩
      · obtain ⟨j, h1, h2⟩ := ih (by
          rcases List.mem_cons.mp hm with z | z
          · exact absurd z.symm e
          · exact z)
        refine ⟨j + 1, h1, fun m z hm hz => ?_⟩
        cases m with
        | zero => rw [← Option.some.inj hz]; exact e
        | succ m => exact h2 m z (by omega) hz
  obtain ⟨j, h1, h2⟩ := fs ns hM
  exact ⟨j, M, h1, hle, h2⟩
theorem min_ex {l : List Int} (h : l ≠ []) : ∃ m ∈ l, ∀ x ∈ l, m ≤ x := by
  induction l with
  | nil => exact absurd rfl h
  | cons a l ih =>
    by_cases e : l = []
    · subst e
      exact ⟨a, by simp, fun x hx => by rw [List.mem_singleton.mp hx]; exact Int.le_refl _⟩
    · obtain ⟨M, h1, h2⟩ := ih e
      by_cases c : M ≤ a
      · refine ⟨M, List.mem_cons_of_mem _ h1, fun x hx => ?_⟩
        rcases List.mem_cons.mp hx with z | z
        · omega
        · exact h2 x z
      · refine ⟨a, List.mem_cons_self, fun x hx => ?_⟩
        rcases List.mem_cons.mp hx with z | z
        · omega
        · have := h2 x z
          omega
theorem cl_ex (ns : List Int) : ∃ es, Cl ns es ∧ es.length ≤ ns.length + 2 := by
  by_cases hn : ns = []
  · exact ⟨[], Cl.all_eq (M := 0) fun x hx => by rw [hn] at hx; exact (List.not_mem_nil hx).elim, Nat.zero_le _⟩
  obtain ⟨a, M, t⟩ := top_ex hn
  by_cases hd : (tp (circ ns a)).dropLast = []
  · exact ⟨[], Cl.all_eq ((cp_nil t).mp hd), Nat.zero_le _⟩
  obtain ⟨m, hm, hl⟩ := min_ex hd
  obtain ⟨cs, rs, run, nf⟩ := RM.ends _ (tp (circ ns a)) (Nat.le_refl _)
  obtain ⟨es, p, s⟩ := sorted_ex (cs ++ [(m, M)])
  refine ⟨es, (cl_of t hd run nf (List.Perm.refl cs) hm hl p s).1, ?_⟩
  have h1 := run.len
  have h2 := tp_len (circ ns a)
  have h3 : (circ ns a).length = ns.length + 1 := by
    have := (List.getElem?_eq_some_iff.mp t.at').1
    unfold circ
    rw [List.length_append, List.length_drop, List.length_take]
    omega
  rw [p.length_eq, List.length_append]
  show cs.length + 1 ≤ _
  omega
/-! ### the letters round the circle, one by one -/
theorem cyc_first {l : List Bool} {a z : Bool} (h0 : l[0]? = some a) (h1 : l[l.length - 1]? = some z) : cyc l = cnt l + (if z = a then 0 else 1) := by
  unfold cyc
  rw [List.getLast?_eq_getElem?, h1, List.head?_eq_getElem?, h0]
  rfl
/-! ### the law's turns -/
def Enm (o : List Int) (i : Nat) (fnd : List Int) : Prop := (i = 0 ∧ fnd = []) ∨ (i = o.length ∧ fnd = lp o) ∨ (∃ j p c, i = j + 1 ∧ j + 1 < o.length ∧ o[j]? = some p ∧ o[j + 1]? = some c ∧ lp o = fnd ++ lq p c (o.drop (j + 2)))
theorem enm_start {o : List Int} {x : Int} (h : o[0]? = some x) : Enm o 1 [x] := by
  match o, h with
  | [y], h =>
    have e : y = x := Option.some.inj h
    exact .inr (.inl ⟨rfl, by rw [e]; rfl⟩)
  | y :: z :: l, h =>
    have e : y = x := Option.some.inj h
    subst e
    exact .inr (.inr ⟨0, y, z, rfl, by simp, rfl, rfl, rfl⟩)
theorem enm_last {o fnd : List Int} {i : Nat} {x : Int} (h : o[i]? = some x) (hi : 0 < i) (hl : i + 1 = o.length) (e : Enm o i fnd) : Enm o (i + 1) (fnd ++ [x]) := by
  rcases e with ⟨e, _⟩ | ⟨e, _⟩ | ⟨j, p, c, e1, e2, e3, e4, e5⟩
  · omega
  · omega
  · subst e1
    rw [h] at e4
    cases e4
    refine .inr (.inl ⟨hl, ?_⟩)
    rw [e5, List.drop_eq_nil_of_le (by omega)]
    rfl
theorem enm_mid {o fnd : List Int} {i : Nat} {p x d : Int} (hp : o[i - 1]? = some p) (h : o[i]? = some x) (hd : o[i + 1]? = some d) (hi : 0 < i) (e : Enm o i fnd) : Enm o (i + 1) (if decide (p < x) = decide (d < x) then fnd ++ [x] else fnd) := by
  have hlt := (List.getElem?_eq_some_iff.mp hd).1
  rcases e with ⟨e, _⟩ | ⟨e, _⟩ | ⟨j, p', c, e1, e2, e3, e4, e5⟩
  · omega
  · omega
  · subst e1
    rw [show j + 1 - 1 = j by omega, e3] at hp
    cases hp
    rw [h] at e4
    cases e4
    obtain ⟨h1, h2⟩ := List.getElem?_eq_some_iff.mp hd
    refine .inr (.inr ⟨j + 1, x, d, rfl, by omega, h, hd, ?_⟩)
    rw [e5, List.drop_eq_getElem_cons h1, h2]
    simp only [lq]
    have ed : (decide (x > p) = decide (x > d)) ↔ (decide (p < x) = decide (d < x)) := Iff.rfl
    by_cases z : decide (p < x) = decide (d < x)
    · rw [if_pos z, if_pos (ed.mpr z), List.append_assoc]
      rfl
    · rw [if_neg z, if_neg (fun y => z (ed.mp y))]
theorem enm_end {o fnd : List Int} (e : Enm o o.length fnd) : fnd = lp o := by
  rcases e with ⟨e, h⟩ | ⟨_, h⟩ | ⟨j, p, c, e1, e2, _⟩
  · have : o = [] := List.length_eq_zero_iff.mp e.symm.symm
    rw [this, h]
    rfl
  · exact h
  · omega
end K20

/-! the once-repeated readings, from a place on -/
namespace KP
open PM
theorem drop_at {ns : List Int} {i : Nat} {r : Int} (h : ns[i]? = some r) : ns.drop i = r :: ns.drop (i + 1) := by
  obtain ⟨h1, h2⟩ := List.getElem?_eq_some_iff.mp h
  rw [List.drop_eq_getElem_cons h1, h2]
/-- what is left of the once-repeated readings from the i-th on -/
def ddr (ns : List Int) : Nat → List Int
  | 0 => dd ns
  | i + 1 => match ns[i]? with
    | some p => ddf p (ns.drop (i + 1))
    | none => []
theorem ddr_first {ns : List Int} {r : Int} (h : ns[0]? = some r) : ddr ns 0 = r :: ddr ns 1 := by
  cases ns with
  | nil => simp at h
  | cons a l =>
    have e : a = r := Option.some.inj h
    subst e
    rfl
theorem ddr_next {ns : List Int} {i : Nat} {p r : Int} (hp : ns[i]? = some p) (h : ns[i + 1]? = some r) : ddr ns (i + 1) = if r = p then ddr ns (i + 2) else r :: ddr ns (i + 2) := by
  show (match ns[i]? with | some p => ddf p (ns.drop (i + 1)) | none => []) = if r = p then (match ns[i + 1]? with | some p => ddf p (ns.drop (i + 2)) | none => []) else r :: (match ns[i + 1]? with | some p => ddf p (ns.drop (i + 2)) | none => [])
  rw [hp, h, drop_at h]
  dsimp only
  simp only [ddf]
  by_cases e : r = p
  · rw [if_pos e, if_pos e, e]
  · rw [if_neg e, if_neg e]
theorem ddr_end (ns : List Int) : ddr ns ns.length = [] := by
  cases h : ns.length with
  | zero =>
    have : ns = [] := List.length_eq_zero_iff.mp h
    rw [this]
    rfl
  | succ n =>
    show (match ns[n]? with | some p => ddf p (ns.drop (n + 1)) | none => []) = []
    have hn : n < ns.length := by omega
    rw [List.getElem?_eq_getElem hn, List.drop_eq_nil_of_le (by omega)]
    rfl
theorem dd_len : ∀ ns : List Int, (dd ns).length ≤ ns.length
  | [] => Nat.le_refl _
  | a :: l => by
    have h : ∀ (l : List Int) (p : Int), (ddf p l).length ≤ l.length := by
      intro l
      induction l with
      | nil => intro p; exact Nat.le_refl _
      | cons x l ih =>
        intro p
        simp only [ddf, List.length_cons]
        split
        · have := ih p; omega
        · have := ih x; rw [List.length_cons]; omega
    have := h l a
    simp only [dd, List.length_cons]
    omega
end KP

set_option pp.maxSteps 900
/-! k30: the law's own count -/
namespace M3W
open PySem PySem.Spec PyProof.Rows L2 KA KD KM PH PM PA PB PC RM RN RC RS QE QF QG K20 KP GU
abbrev sTn : Stmt := topS 36
abbrev sRn : Stmt := topS 37
abbrev sHs : Stmt := topS 38
abbrev sMy : Stmt := topS 39
abbrev sCt : Stmt := topS 40
theorem scTn : FnScope ["load", "k", "once", "found", "here"] ["load"] (defScope sTn) := ⟨rfl, rfl, rfl, by decide +kernel, rfl, by decide +kernel, by decide +kernel⟩
theorem scRn : FnScope ["first", "second"] ["first", "second"] (defScope sRn) := ⟨rfl, rfl, rfl, by decide +kernel, rfl, by decide +kernel, by decide +kernel⟩
theorem scHs : FnScope ["outer", "inner"] ["outer", "inner"] (defScope sHs) := ⟨rfl, rfl, rfl, by decide +kernel, rfl, by decide +kernel, by decide +kernel⟩
theorem scMy : FnScope ["points", "k", "one"] ["points", "k"] (defScope sMy) := ⟨rfl, rfl, rfl, by decide +kernel, rfl, by decide +kernel, by decide +kernel⟩
theorem scCt : FnScope ["load", "points", "cycles", "k", "places"] ["load"] (defScope sCt) := ⟨rfl, rfl, rfl, by decide +kernel, rfl, by decide +kernel, by decide +kernel⟩
/-! ### sorted pairs -/
/-- the pair at a ref -/
theorem ev_ints : ∀ as bs : List Int, PyData.eqvAll (dInts as) (dInts bs) = decide (as = bs)
  | [], [] => by simp [dInts, PyData.eqvAll]
  | [], _ :: _ => by simp [dInts, PyData.eqvAll]
  | _ :: _, [] => by simp [dInts, PyData.eqvAll]
  | a :: as, b :: bs => by
    have ih := ev_ints as bs
    show (PyData.eqv (.int a) (.int b) && PyData.eqvAll (dInts as) (dInts bs)) = _
    rw [ih]
    simp [PyData.eqv, Bool.beq_eq_decide_eq]
theorem ev_lst (as bs : List Int) : PyData.eqv (.list (dInts as)) (.list (dInts bs)) = decide (as = bs) := by
  rw [← ev_ints]; simp [PyData.eqv]
def kOf (H : Hp) : V → Int × Int
  | .ref p => match H p with
    | some (.tup [.int a, .int b]) => (a, b)
    | _ => (0, 0)
  | _ => (0, 0)
theorem kOf_at {H : Hp} {p : Addr} {r : Int × Int} (h : H p = some (.tup [.int r.1, .int r.2])) : kOf H (.ref p) = r := by
  show (match H p with | some (.tup [.int a, .int b]) => (a, b) | _ => (0, 0)) = r
  rw [h]
theorem pairs_key {H : Hp} : ∀ {xs : List V} {rs : List (Int × Int)}, PairsAt H xs rs → rs = xs.map (kOf H) ∧ ∀ x ∈ xs, ∃ t, x = V.ref t ∧ H t = some (.tup [.int (kOf H x).1, .int (kOf H x).2])
  | [], [], _ => ⟨rfl, fun _ z => (List.not_mem_nil z).elim⟩
  | x :: xs, r :: rs, ⟨⟨p, h1, h2⟩, h3⟩ => by
    obtain ⟨e, all⟩ := pairs_key h3
    subst h1
    have k := kOf_at h2
    refine ⟨by rw [List.map_cons, k, ← e], fun x hx => ?_⟩
    rcases List.mem_cons.mp hx with z | z
    · exact ⟨p, z, by rw [z, k]; exact h2⟩
    · exact all x z
  | [], _ :: _, h => h.elim
  | _ :: _, [], h => h.elim
theorem pairs_of {H : Hp} : ∀ {xs : List V}, (∀ x ∈ xs, ∃ t, x = V.ref t ∧ H t = some (.tup [.int (kOf H x).1, .int (kOf H x).2])) → PairsAt H xs (xs.map (kOf H))
  | [], _ => trivial
  | x :: xs, h => ⟨h x List.mem_cons_self, pairs_of fun y hy => h y (List.mem_cons_of_mem _ hy)⟩
theorem sorted_out {H : Hp} {xs ys : List V} {rs : List (Int × Int)} (pa : PairsAt H xs rs) (h1 : SrtO.Srtd (ltP (kOf H)) ys) (h2 : SrtO.Stb (ltP (kOf H)) ys xs) : ∃ ds, PairsAt H ys ds ∧ ds.Perm rs ∧ ds.Pairwise Le := by
  obtain ⟨e, all⟩ := pairs_key pa
  refine ⟨ys.map (kOf H), pairs_of fun y hy => all y (h2.perm.mem_iff.mp hy), by rw [e]; exact h2.perm.map _, ?_⟩
  rw [List.pairwise_map]
  refine h1.imp fun {x y} h => ?_
  have := SrtO.lexB_no.mp h
  show (kOf H x).1 < (kOf H y).1 ∨ ((kOf H x).1 = (kOf H y).1 ∧ (kOf H x).2 ≤ (kOf H y).2)
  omega
theorem cut_to (xs : List V) (k : Nat) : cutV xs none (some ((k : Nat) : Int)) = xs.take k := by
  unfold cutV
  rw [HT.sIx_none, HT.sIx_nat]
  simp only [Nat.sub_zero, List.drop_zero]
  rcases Nat.le_total k xs.length with h | h
  · rw [Nat.min_eq_left h]
  · rw [Nat.min_eq_right h, List.take_length, List.take_of_length_le h]
theorem cut_from (xs : List V) (k : Nat) : cutV xs (some ((k : Nat) : Int)) none = xs.drop k := by
  unfold cutV
  rw [HT.sIx_nat, HT.sIx_none]
  rcases Nat.le_total k xs.length with h | h
  · rw [Nat.min_eq_left h, List.take_of_length_le (by rw [List.length_drop]; omega)]
  · rw [Nat.min_eq_right h, Nat.sub_self, List.drop_eq_nil_of_le h]
    rfl
theorem pairs_upd {H : Hp} {c : Addr} {l : List V} {o : HO} (hc : H c = some (.lst l)) : ∀ {xs : List V} {rs : List (Int × Int)}, PairsAt H xs rs → PairsAt (upd H c o) xs rs
  | [], [], _ => trivial
  | x :: xs, r :: rs, ⟨⟨p, h1, h2⟩, h3⟩ => ⟨⟨p, h1, by rw [upd_ne (fun z => by rw [z, hc] at h2; cases h2)]; exact h2⟩, pairs_upd hc h3⟩
  | [], _ :: _, h => h.elim
  | _ :: _, [], h => h.elim
theorem rg_mem {a b : Int} {ns : List Int} (h1 : a ∈ ns) (h2 : b ∈ ns) : (rg a b).1 ∈ ns ∧ (rg a b).2 ∈ ns := by
  unfold rg
  constructor
  · show (if b < a then b else a) ∈ ns
    split <;> assumption
  · show (if b > a then b else a) ∈ ns
    split <;> assumption
section
variable {P : Program} {w : World} {K : PySem.W.Frag} {mg : Str → Option Value} {base : Heap}
def spTn (K : PySem.W.Frag) : Sp := fun vs H Q _ => ∃ (a : Addr) (ns : List Int), vs = [.ref a] ∧ Sq K H a (ns.map V.int) ∧ ns.length ≤ 2500 ∧ ∀ H' p, Same H H' → H p = none → H' p = some (.lst ((tp ns).map V.int)) → Q (.ref p) H'
theorem ok_tn {f : Addr} {fd : FuncData} {k : Nat} (F : Fun K "_law_turns" "_law_turns" sTn f fd) (ml : mg "len" = none) (mr : mg "range" = none) (me : mg "enumerate" = none) : FnOk P w K mg base CX0 (k + 1) f fd ["load"] (spTn K) := by
  refine F.ok scTn (fun vs H Q E h => ?_) (fun cdv A outer s H vs Q E hr h => ?_)
  · obtain ⟨a, ns, rfl, _⟩ := h
    rfl
  · obtain ⟨a, ns, rfl, hS, hlen, hq⟩ := h
    refine ⟨_, pss_cons (ps_setLc (i := 2) (own := [("k", 1)]) (g := gName 1) (tt := tOr (tTest (tOp rEq (tVar 1) (tC (V.int 0)))) (tTest (tOp rNe (tOp (GB.rIxB K) (tVar 0) (tVar 1)) (tOp (GB.rIxB K) (tVar 0) (tOp (rI0 fun i j => .int (i - j)) (tVar 1) (tC (V.int 1))))))) (te := tOp (GB.rIxB K) (tVar 0) (tVar 1)) rfl scTn.nd rfl rfl (sw_true rfl rfl rfl (by decide +kernel)) (pi_range1 rfl mr (pa_cons (pe_callB call_len_seq (by rfl) ml PySem.boot_len (pa_cons (pv 0) pa_nil)) pa_nil))
        (blkOk_by (own := [("k", 1)]) (N := ["load", "k", "once", "found", "here"]) (sc := defScope sTn) (by decide +kernel))
        (fun _ _ _ _ _ => pg_name (i := 1) scTn.nd rfl (Or.inl rfl) (Or.inr rfl))
        (fun _ _ _ _ _ => pts_one (PW.pt (pw_or (pt_cmpR op_eq (pv 1) pe_int (nomark _)) (pw_or1 (pt_cmpR op_ne (pe_ix GB.ix_both (pv 0) (pv 1) (fun _ _ => rfl)) (pe_ix GB.ix_both (pv 0) (pe_op op_sub (pv 1) pe_int) (fun _ _ => rfl)) (nomark _))))))
        (fun _ _ _ _ _ => pe_ix GB.ix_both (pv 0) (pv 1) (fun _ _ => rfl)))
      (pss_cons (ps_set (i := 3) scTn.nd rfl (.inl rfl) (pe_lst pa_nil))
      (pss_cons (ps_for PassesOwn.never rfl (pi_enum (by rfl) me (pa_cons (pv 2) pa_nil)) (pg_tup rfl (pgs_cons (pg_name (i := 1) scTn.nd rfl (.inl rfl)) (pgs_cons (pg_name (i := 4) scTn.nd rfl (.inl rfl)) pgs_nil)))
        (pss_one (ps_if (PW.pt (pw_or (pt_cmpR op_in_seq (pv 1) (pe_tup (pa_cons pe_int (pa_cons (pe_op op_sub (pe_callB call_len_seq (by rfl) ml PySem.boot_len (pa_cons (pv 2) pa_nil)) pe_int) pa_nil))) (by rfl))
            (pw_or1 (pt_cmpR op_eq (pe_cmpR op_lt (pe_ix ix_list (pv 2) (pe_op op_sub (pv 1) pe_int) (fun _ _ => rfl)) (pv 4) (nomark _)) (pe_cmpR op_lt (pe_ix ix_list (pv 2) (pe_op op_add (pv 1) pe_int) (fun _ _ => rfl)) (pv 4) (nomark _)) (nomark _)))))
          (pss_one (ps_expr (pe_bm PySem.F.plainAttrs_list PySem.F.slot_list_append PySem.F.type_list_append mt_append (pv 3) (pa_cons (pv 4) pa_nil)))) pss_nil)))
      (pss_one (ps_ret (pv 3))))), ?_⟩
    have hml : (ns.map V.int).length = ns.length := List.length_map _
    refine ⟨.ref a, rfl, a, ns.map V.int, rfl, hS, ((ns.map V.int).length : Int), rfl, by rw [hml]; omega, by rw [hml]; omega, fun D nD => ?_⟩
    have sD : ∀ o, Same H (upd H D o) := fun o => same_new nD
    refine lc_range (lo := 0) (n := (((ns.map V.int).length : Int)).toNat) (fun i H' => ∃ acc : List Int, H' = upd H D (.lst (acc.map V.int)) ∧ acc.length ≤ i ∧ dd ns = acc ++ ddr ns i) ?_ ?_ ?_
    · exact ⟨[], rfl, Nat.le_refl _, rfl⟩
    · rintro i H' hi ⟨acc, rfl, hal, hac⟩
      have hin : i < ns.length := by omega
      have ei : ns[i]? = some ns[i] := List.getElem?_eq_getElem hin
      have ax : atI (ns.map V.int) (0 + (i : Int)) = some (.int ns[i]) := at_of (by omega) (at_int ei)
      have elt : acc.length < sizeLine := small3000 (by omega)
      have grow : ∀ x : Int, upd (upd H D (.lst (acc.map V.int))) D (.lst (acc.map V.int ++ [.int x])) = upd H D (.lst ((acc ++ [x]).map V.int)) := fun x => by rw [upd_upd, List.map_append]; rfl
      refine ⟨rfl, .int (0 + (i : Int)), rfl, rfl, _, rfl, ?_⟩
      cases i with
      | zero =>
        refine iteT (iteT ⟨.ref a, rfl, _, rfl, a, _, _, .int ns[0], rfl, rfl, hS.same (sD _), ax, acc.map V.int, upd_same, by rw [List.length_map]; exact elt, acc ++ [ns[0]], grow _, by rw [List.length_append, List.length_singleton]; omega, ?_⟩)
        rw [hac, ddr_first ei, List.append_assoc]
        rfl
      | succ m =>
        have hne : decide (V.int (0 + ((m + 1 : Nat) : Int)) = V.int 0) = false := decide_eq_false fun z => by have := V.int.inj z; omega
        rw [hne]
        have hm : m < ns.length := by omega
        have em : ns[m]? = some ns[m] := List.getElem?_eq_getElem hm
        have nx := ddr_next em ei
        refine iteF ⟨.ref a, rfl, .int (0 + ((m + 1 : Nat) : Int)), rfl, a, _, _, .int ns[m + 1], rfl, rfl, hS.same (sD _), ax, .ref a, rfl, .int (0 + ((m + 1 : Nat) : Int)), rfl, _, 1, rfl, rfl, a, _, _, .int ns[m], rfl, rfl, hS.same (sD _), at_of (by omega) (at_int em), rfl, _, rfl, ?_⟩
        by_cases e : ns[m + 1] = ns[m]
        · rw [decide_eq_true (show V.int ns[m + 1] = V.int ns[m] by rw [e])]
          refine iteF ⟨acc, rfl, by omega, ?_⟩
          rw [if_pos e] at nx
          rw [hac, nx]
        · rw [decide_eq_false (show ¬ V.int ns[m + 1] = V.int ns[m] from fun z => e (V.int.inj z))]
          refine iteT ⟨.ref a, rfl, _, rfl, a, _, _, .int ns[m + 1], rfl, rfl, hS.same (sD _), ax, acc.map V.int, upd_same, by rw [List.length_map]; exact elt, acc ++ [ns[m + 1]], grow _, by rw [List.length_append, List.length_singleton]; omega, ?_⟩
          rw [if_neg e] at nx
          rw [hac, nx, List.append_assoc]
          rfl
    rintro H' ⟨acc, rfl, hal, hac⟩
    have en : (((ns.map V.int).length : Int)).toNat = ns.length := by rw [hml]; omega
    rw [en, ddr_end, List.append_nil] at hac
    subst hac
    generalize ho : dd ns = o
    have hol : o.length ≤ 2500 := by rw [← ho]; exact Nat.le_trans (dd_len ns) hlen
    have hom : (o.map V.int).length = o.length := List.length_map _
    -- found
    refine ⟨Nat.zero_le _, fun c nc => ?_⟩
    have ncD : c ≠ D := fun z => by rw [z, upd_same] at nc; cases nc
    have hc0 : H c = none := (sD _).free nc
    have s0 : Same H (upd (upd H D (.lst (o.map V.int))) c (.lst [])) := (sD _).trans (same_new nc)
    have eD0 : (upd (upd H D (.lst (o.map V.int))) c (.lst [])) D = some (.lst (o.map V.int)) := by rw [upd_ne ncD.symm, upd_same]
    have ec0 : (upd (upd H D (.lst (o.map V.int))) c (.lst [])) c = some (.lst (([] : List Int).map V.int)) := upd_same
    generalize upd (upd H D (.lst (o.map V.int))) c (.lst []) = H0 at s0 eD0 ec0 ⊢
    refine ⟨.ref D, rfl, D, o.map V.int, rfl, SqL.of eD0, for_it (walk_enum (K := K) (a := D) (xs := o.map V.int)) (fun i σ Hz => Same H Hz ∧ Hz D = some (.lst (o.map V.int)) ∧ ∃ (fnd : List Int) (r1 r4 : Option V), Hz c = some (.lst (fnd.map V.int)) ∧ Enm o i fnd ∧ fnd.length ≤ i ∧ σ = [some (.ref a), r1, some (.ref D), some (.ref c), r4]) ⟨s0, eD0, [], none, none, ec0, .inl ⟨rfl, rfl⟩, Nat.le_refl _, rfl⟩ (fun i σ Hz _ z => SqL.of z.2.1) ?_ ?_⟩
    · rintro i y σ Hz H2 hi ⟨sz, eD, fnd, r1, r4, ec, enm, hfl, rfl⟩ ⟨T, u, v, rfl, nT, rfl, g1, g2⟩
      rw [hom] at hi
      obtain rfl : u = .int (i : Nat) := (Option.some.inj g1).symm
      have g2 : (o.map V.int)[i]? = some v := g2
      obtain ⟨x, hx, rfl⟩ := int_at g2
      have sT : Same Hz (upd Hz T (.tup [.int (i : Nat), .int x])) := same_new nT
      have eD1 := sT _ _ eD
      have ec1 := sT _ _ ec
      have s1 := sz.trans sT
      have eT1 := upd_same (H := Hz) (a := T) (o := .tup [.int (i : Nat), .int x])
      generalize upd Hz T (.tup [.int (i : Nat), .int x]) = H3 at eD1 ec1 s1 eT1 ⊢
      refine ⟨T, _, rfl, SqT.of eT1, rfl, .int (i : Nat), [.int x], rfl, .int x, [], rfl, rfl, ?_⟩
      refine ⟨.int (i : Nat), rfl, .ref D, rfl, D, _, rfl, .inl (SqL.of eD1), _, 1, rfl, rfl, by show 2 ≤ sizeLine; decide, fun p np => ?_⟩
      have sp := same_new (o := .tup [.int 0, .int (((o.map V.int).length : Int) - 1)]) np
      refine ⟨p, _, rfl, .inr (SqT.of upd_same), rfl, rfl, _, rfl, ?_⟩
      have ein : inV (V.int (i : Nat)) [V.int 0, V.int (((o.map V.int).length : Int) - 1)] = (decide (i = 0) || decide (i + 1 = o.length)) := by
        show ((0 : Int) == (i : Int) || ((((o.map V.int).length : Int) - 1) == (i : Int) || false)) = _
        rw [hom, Bool.or_false]
        congr 1
        · rw [Bool.eq_iff_iff, beq_iff_eq, decide_eq_true_iff]; omega
        · rw [Bool.eq_iff_iff, beq_iff_eq, decide_eq_true_iff]; omega
      rw [ein]
      have eD2 := sp _ _ eD1
      have ec2 := sp _ _ ec1
      have s2 := s1.trans sp
      generalize upd H3 p (.tup [.int 0, .int (((o.map V.int).length : Int) - 1)]) = H4 at eD2 ec2 s2 ⊢
      have ecs : (fnd.map V.int).length < sizeLine := by rw [List.length_map]; exact small3000 (by omega)
      have fin : ∀ (b : Bool), Enm o (i + 1) (if b = true then fnd ++ [x] else fnd) → b = true → Same H (upd H4 c (.lst (fnd.map V.int ++ [.int x]))) ∧ (upd H4 c (.lst (fnd.map V.int ++ [.int x]))) D = some (.lst (o.map V.int)) ∧ ∃ (fnd' : List Int) (r1 r4 : Option V), (upd H4 c (.lst (fnd.map V.int ++ [.int x]))) c = some (.lst (fnd'.map V.int)) ∧ Enm o (i + 1) fnd' ∧ fnd'.length ≤ i + 1 ∧ ([some (.ref a), some (.int (i : Nat)), some (.ref D), some (.ref c), some (.int x)] : List (Option V)) = [some (.ref a), r1, some (.ref D), some (.ref c), r4] := fun b e hb => by
        subst hb
        refine ⟨same_again hc0 s2, by rw [upd_ne ncD.symm]; exact eD2, fnd ++ [x], _, _, by rw [upd_same, List.map_append]; rfl, e, by rw [List.length_append, List.length_singleton]; omega, rfl⟩
      by_cases z : i = 0 ∨ i + 1 = o.length
      · have e1 : (decide (i = 0) || decide (i + 1 = o.length)) = true := by
          rcases z with z | z
          · rw [decide_eq_true z]; rfl
          · rw [decide_eq_true z, Bool.or_true]
        rw [e1]
        refine iteT (iteT ⟨.ref c, rfl, .inl ⟨rfl, _, SqL.of ec2⟩, .int x, rfl, c, _, _, rfl, rfl, ec2, ecs, fin true ?_ rfl⟩)
        show Enm o (i + 1) (fnd ++ [x])
        by_cases z0 : i = 0
        · subst z0
          have ef : fnd = [] := List.length_eq_zero_iff.mp (by omega)
          subst ef
          exact enm_start hx
        · exact enm_last hx (by omega) (by omega) enm
      · have e1 : (decide (i = 0) || decide (i + 1 = o.length)) = false := by
          rw [decide_eq_false (fun y => z (.inl y)), decide_eq_false (fun y => z (.inr y))]
          rfl
        rw [e1]
        have hi1 : i - 1 < o.length := by omega
        have hi2 : i + 1 < o.length := by omega
        have gp := List.getElem?_eq_getElem hi1
        have gd := List.getElem?_eq_getElem hi2
        have enm2 := enm_mid gp hx gd (by omega) enm
        refine iteF ⟨.ref D, rfl, .int (i : Nat), rfl, _, 1, rfl, rfl, D, _, _, .int o[i - 1], rfl, rfl, SqL.of eD2, at_of (j := i - 1) (by omega) (at_int gp), .int x, rfl, o[i - 1], x, rfl, rfl, ?_⟩
        refine ⟨.ref D, rfl, .int (i : Nat), rfl, _, 1, rfl, rfl, D, _, _, .int o[i + 1], rfl, rfl, SqL.of eD2, at_of (j := i + 1) (by omega) (at_int gd), .int x, rfl, o[i + 1], x, rfl, rfl, rfl, _, rfl, ?_⟩
        by_cases e : decide (o[i - 1] < x) = decide (o[i + 1] < x)
        · rw [decide_eq_true (show V.bl (decide (o[i - 1] < x)) = V.bl (decide (o[i + 1] < x)) by rw [e])]
          rw [if_pos e] at enm2
          exact iteT ⟨.ref c, rfl, .inl ⟨rfl, _, SqL.of ec2⟩, .int x, rfl, c, _, _, rfl, rfl, ec2, ecs, fin true enm2 rfl⟩
        · rw [decide_eq_false (show ¬ V.bl (decide (o[i - 1] < x)) = V.bl (decide (o[i + 1] < x)) from fun z => e (V.bl.inj z))]
          rw [if_neg e] at enm2
          exact iteF ⟨s2, eD2, fnd, _, _, ec2, enm2, by omega, rfl⟩
    · rintro σ Hz ⟨sz, eD, fnd, r1, r4, ec, enm, hfl, rfl⟩
      rw [hom] at enm
      refine ⟨.ref c, rfl, hq Hz c sz hc0 ?_⟩
      rw [ec, enm_end enm, tp_lp, ho]
theorem ok_hs {f : Addr} {fd : FuncData} {k : Nat} (F : Fun K "_law_has" "_law_has" sHs f fd) : FnOk P w K mg base CX0 (k + 1) f fd ["outer", "inner"] (spCont K) := by
  refine F.ok scHs (fun vs H Q E h => ?_) (fun cdv A outer s H vs Q E hr h => ?_)
  · obtain ⟨p, q, a, b, c, d, rfl, _⟩ := h
    rfl
  · obtain ⟨p, q, a, b, c, d, rfl, h1, h2, hq⟩ := h
    refine ⟨_, pss_one (ps_ret (pe_and (pe_cmpR op_le (pe_ix ix_tup (pv 0) pe_int (fun _ _ => rfl)) (pe_ix ix_tup (pv 1) pe_int (fun _ _ => rfl)) (nomark _)) (pe_one (pe_cmpR op_le (pe_ix ix_tup (pv 1) pe_int (fun _ _ => rfl)) (pe_ix ix_tup (pv 0) pe_int (fun _ _ => rfl)) (nomark _))))), ?_⟩
    refine ⟨.ref p, rfl, p, _, 0, .int a, rfl, rfl, h1, rfl, .ref q, rfl, q, _, 0, .int c, rfl, rfl, h2, rfl, a, c, rfl, rfl, _, rfl, ?_⟩
    by_cases e : a ≤ c
    · rw [decide_eq_true e] at hq ⊢
      exact iteT ⟨.ref q, rfl, q, _, 1, .int d, rfl, rfl, h2, rfl, .ref p, rfl, p, _, 1, .int b, rfl, rfl, h1, rfl, d, b, rfl, rfl, hq⟩
    · rw [decide_eq_false e] at hq ⊢
      exact iteF hq
theorem ok_rn {f : Addr} {fd : FuncData} {k : Nat} (F : Fun K "_law_range" "_law_range" sRn f fd) (mn : mg "min" = none) (mx : mg "max" = none) : FnOk P w K mg base CX0 (k + 1) f fd ["first", "second"] spRng := by
  refine F.ok scRn (fun vs H Q E h => ?_) (fun cdv A outer s H vs Q E hr h => ?_)
  · obtain ⟨a, b, rfl, _⟩ := h
    rfl
  · obtain ⟨a, b, rfl, hq⟩ := h
    refine ⟨_, pss_one (ps_ret (pe_tup (pa_cons (pe_callB (call_min2 rfl) (by rfl) mn (by decide +kernel) (pa_cons (pv 0) (pa_cons (pv 1) pa_nil))) (pa_cons (pe_callB (call_max2 rfl) (by rfl) mx (by decide +kernel) (pa_cons (pv 0) (pa_cons (pv 1) pa_nil))) pa_nil)))), ?_⟩
    exact ⟨.int a, rfl, .int b, rfl, a, b, rfl, .int a, rfl, .int b, rfl, a, b, rfl, by show 2 ≤ sizeLine; decide, fun p np => hq p np⟩
def spMy (K : PySem.W.Frag) : Sp := fun vs H Q _ => ∃ (a : Addr) (ps : List Int) (i : Nat) (z : Int), vs = [.ref a, .int z] ∧ z = (i : Int) + 1 ∧ SqL K H a (ps.map V.int) ∧ i + 3 < ps.length ∧ ∀ H', Same H H' → Q (.bl (takenAt ps i)) H'
theorem ok_my {f : Addr} {fd : FuncData} {fRN : Addr} {dRN : FuncData} {fHS : Addr} {dHS : FuncData} {k : Nat} (F : Fun K "_law_may_take" "_law_may_take" sMy f fd) (GRN : FnOk P w K mg base CX0 (k + 1) fRN dRN ["first", "second"] spRng) (gRN : mg "_law_range" = some (.ref fRN)) (kRN : PySem.W.keepIn K (.ref fRN) = true) (bRN : Binds K dRN ["first", "second"] []) (GHS : FnOk P w K mg base CX0 (k + 1) fHS dHS ["outer", "inner"] (spCont K)) (gHS : mg "_law_has" = some (.ref fHS)) (kHS : PySem.W.keepIn K (.ref fHS) = true) (bHS : Binds K dHS ["outer", "inner"] []) : FnOk P w K mg base CX0 (k + 2) f fd ["points", "k"] (spMy K) := by
  refine F.ok scMy (fun vs H Q E h => ?_) (fun cdv A outer s H vs Q E hr h => ?_)
  · obtain ⟨a, ps, i, z, rfl, rfl, hS, hl, hq⟩ := h
    rfl
  · obtain ⟨a, ps, i, z, rfl, rfl, hS, hl, hq⟩ := h
    refine ⟨_, (pss_cons (ps_set (i := 2) scMy.nd rfl (.inl rfl) (pe_call GRN hr (by rfl) gRN kRN bRN .nil pass0 (pa_cons (pe_ix ix_list (pv 0) (pv 1) (fun _ _ => rfl)) (pa_cons (pe_ix ix_list (pv 0) (pe_op op_add (pv 1) pe_int) (fun _ _ => rfl)) pa_nil))))
      (pss_cons (ps_if (pt_not (pt_val (pe_call GHS hr (by rfl) gHS kHS bHS .nil pass0 (pa_cons (pe_call GRN hr (by rfl) gRN kRN bRN .nil pass0 (pa_cons (pe_ix ix_list (pv 0) (pe_op op_sub (pv 1) pe_int) (fun _ _ => rfl)) (pa_cons (pe_ix ix_list (pv 0) (pv 1) (fun _ _ => rfl)) pa_nil))) (pa_cons (pv 2) pa_nil))))) (pss_one (ps_ret pe_bl)) pss_nil)
      (pss_one (ps_ret (pe_call GHS hr (by rfl) gHS kHS bHS .nil pass0 (pa_cons (pe_call GRN hr (by rfl) gRN kRN bRN .nil pass0 (pa_cons (pe_ix ix_list (pv 0) (pe_op op_add (pv 1) pe_int) (fun _ _ => rfl)) (pa_cons (pe_ix ix_list (pv 0) (pe_op op_add (pv 1) pe_int) (fun _ _ => rfl)) pa_nil))) (pa_cons (pv 2) pa_nil))))))), ?_⟩
    obtain ⟨x, e0⟩ : ∃ x, ps[i]? = some x := ⟨_, List.getElem?_eq_getElem (by omega)⟩
    obtain ⟨y, e1⟩ : ∃ x, ps[i + 1]? = some x := ⟨_, List.getElem?_eq_getElem (by omega)⟩
    obtain ⟨t, e2⟩ : ∃ x, ps[i + 2]? = some x := ⟨_, List.getElem?_eq_getElem (by omega)⟩
    obtain ⟨u, e3⟩ : ∃ x, ps[i + 3]? = some x := ⟨_, List.getElem?_eq_getElem (by omega)⟩
    have a0 : atI (ps.map V.int) ((i : Int) + 1 - 1) = some (.int x) := at_of (j := i) (by omega) (at_int e0)
    have a1 : atI (ps.map V.int) ((i : Int) + 1) = some (.int y) := at_of (j := i + 1) (by omega) (at_int e1)
    have a2 : atI (ps.map V.int) ((i : Int) + 1 + 1) = some (.int t) := at_of (j := i + 2) (by omega) (at_int e2)
    have a3 : atI (ps.map V.int) ((i : Int) + 1 + 2) = some (.int u) := at_of (j := i + 3) (by omega) (at_int e3)
    refine ⟨.ref a, rfl, .int ((i : Int) + 1), rfl, a, _, _, .int y, rfl, rfl, hS, a1, .ref a, rfl, .int ((i : Int) + 1), rfl, _, 1, rfl, rfl, a, _, _, .int t, rfl, rfl, hS, a2, y, t, rfl, fun p1 n1 => ?_⟩
    have s1 := same_new n1 (o := .tup [.int (rg y t).1, .int (rg y t).2])
    have h1 : (upd H p1 (.tup [.int (rg y t).1, .int (rg y t).2])) p1 = some (.tup [.int (rg y t).1, .int (rg y t).2]) := upd_same
    generalize upd H p1 (.tup [.int (rg y t).1, .int (rg y t).2]) = H1 at s1 h1 ⊢
    refine ⟨.ref a, rfl, .int ((i : Int) + 1), rfl, _, 1, rfl, rfl, a, _, _, .int x, rfl, rfl, s1.seq hS, a0, .ref a, rfl, .int ((i : Int) + 1), rfl, a, _, _, .int y, rfl, rfl, s1.seq hS, a1, x, y, rfl, fun p2 n2 => ?_⟩
    have s2 := same_new n2 (o := .tup [.int (rg x y).1, .int (rg x y).2])
    have h2 : (upd H1 p2 (.tup [.int (rg x y).1, .int (rg x y).2])) p2 = some (.tup [.int (rg x y).1, .int (rg x y).2]) := upd_same
    generalize upd H1 p2 (.tup [.int (rg x y).1, .int (rg x y).2]) = H2 at s2 h2 ⊢
    have tk := taken_get e0 e1 e2 e3
    refine ⟨.ref p1, rfl, p2, p1, _, _, _, _, rfl, SqT.of h2, SqT.of (s2 _ _ h1), _, rfl, ?_⟩
    cases c1 : (decide ((rg x y).1 ≤ (rg y t).1) && decide ((rg y t).2 ≤ (rg x y).2)) with
    | false =>
      have : takenAt ps i = false := by
        rw [tk]
        refine decide_eq_false fun z => ?_
        rw [decide_eq_true z.1.1, decide_eq_true z.1.2] at c1
        cases c1
      have hq := hq _ (s1.trans s2)
      rw [this] at hq
      exact iteT hq
    | true =>
      refine iteF ?_
      have sS := (s1.trans s2).seq hS
      refine ⟨.ref a, rfl, .int ((i : Int) + 1), rfl, _, 1, rfl, rfl, a, _, _, .int t, rfl, rfl, sS, a2, .ref a, rfl, .int ((i : Int) + 1), rfl, _, 2, rfl, rfl, a, _, _, .int u, rfl, rfl, sS, a3, t, u, rfl, fun p3 n3 => ?_⟩
      have s3 := same_new n3 (o := .tup [.int (rg t u).1, .int (rg t u).2])
      refine ⟨.ref p1, rfl, p3, p1, _, _, _, _, rfl, SqT.of upd_same, SqT.of (s3 _ _ (s2 _ _ h1)), ?_⟩
      have hq := hq _ ((s1.trans s2).trans s3)
      rw [show takenAt ps i = (decide ((rg t u).1 ≤ (rg y t).1) && decide ((rg y t).2 ≤ (rg t u).2)) by
        rw [tk, ← Bool.decide_and, decide_eq_decide]
        rw [← Bool.decide_and] at c1
        exact ⟨fun z => z.2, fun z => ⟨of_decide_eq_true c1, z⟩⟩] at hq
      exact hq
def spCt (K : PySem.W.Frag) : Sp := fun vs H Q _ => ∃ (a : Addr) (ns : List Int), vs = [.ref a] ∧ Sq K H a (ns.map V.int) ∧ ns.length ≤ 2000 ∧
  ∀ H' p c r xs cs rs, Same H H' → H' p = some (.tup [.ref c, .ref r]) → H' c = some (.lst xs) → PairsAt H' xs cs → H' r = some (.lst (rs.map V.int)) → H r = none → H c = none → cs.length ≤ ns.length → rs.length ≤ ns.length → (∀ x ∈ rs, x ∈ ns) → (∀ q ∈ cs, q.1 ∈ ns ∧ q.2 ∈ ns) →
    decide (rs = tp ns) = (plc (tp ns)).isEmpty → (∃ ds, Run (tp ns) ds rs ∧ cs.Perm ds) → NF rs → cs.Pairwise Le → Q (.ref p) H'
theorem step_here {ps : List Int} {i : Nat} {y t : Int} (h : takenAt ps i = true) (e1 : ps[i + 1]? = some y) (e2 : ps[i + 2]? = some t) : Step ps (rg y t) (ps.take (i + 1) ++ ps.drop (i + 3)) := by
  obtain ⟨pre, a, b, c, d, post, rfl, rfl, tk⟩ := taken_here h
  rw [List.getElem?_append_right (by omega)] at e1 e2
  rw [show pre.length + 1 - pre.length = 1 by omega] at e1
  rw [show pre.length + 2 - pre.length = 2 by omega] at e2
  obtain rfl : b = y := by simpa using e1
  obtain rfl : c = t := by simpa using e2
  rw [List.take_append, List.take_of_length_le (by omega), show pre.length + 1 - pre.length = 1 by omega, List.drop_append, List.drop_of_length_le (by omega), show pre.length + 3 - pre.length = 3 by omega, List.append_assoc]
  show Step (pre ++ a :: b :: c :: d :: post) (rg b c) (pre ++ a :: d :: post)
  clear e1 e2 h
  induction pre with
  | nil => exact .here tk
  | cons x pre ih => exact .there ih
theorem plc_lc {K : PySem.W.Frag} {a pp cc : Addr} {r3 r4 : Option V} {Hx : Hp} {ps : List Int} {Q : VK} (hp : Hx pp = some (.lst (ps.map V.int))) (hlen : ps.length ≤ 2000)
    (hq : ∀ H' D, Same Hx H' → Hx D = none → H' D = some (.lst ((plc ps).map V.int)) → Q (.ref D) H') :
    tLc (iRng2 (tCons (tC (V.int 1)) (tCons (tOp (rI0 fun i j => V.int (i - j)) (tCB (fun xs H Q => ∃ p ys, xs = [V.ref p] ∧ (SqL K H p ys ∨ SqT K H p ys) ∧ Q (.int ys.length) H) (tCons (tVar 1) tNil)) (tC (V.int 2))) tNil))) (gName 3)
      (tB (tCall (spMy K) [] E0 (tCons (tVar 1) (tCons (tVar 3) tNil)))) (tVar 3) (List.map (fun x => x.2) [(("k" : Str), 3)]) [some (.ref a), some (.ref pp), some (.ref cc), r3, r4] Hx Q := by
  have hm : (ps.map V.int).length = ps.length := List.length_map _
  refine ⟨.ref pp, rfl, pp, _, rfl, .inl (SqL.of hp), _, 2, rfl, rfl, 1, _, rfl, ⟨by decide, by decide, by rw [hm]; omega, by rw [hm]; omega⟩, fun D nD => ?_⟩
  refine lc_range (lo := 1) (n := ((((ps.map V.int).length : Int) - 2) - 1).toNat) (fun i H' => Same Hx H' ∧ H' D = some (.lst ((((List.range i).filter (takenAt ps)).map fun (i : Nat) => (i : Int) + 1).map V.int))) ⟨same_new nD, upd_same⟩ ?_ ?_
  · rintro i H' hi ⟨sm, eD⟩
    rw [hm] at hi
    have hl : i + 3 < ps.length := by omega
    have ez : (1 : Int) + (i : Int) = (i : Int) + 1 := by omega
    refine ⟨rfl, .ref pp, rfl, .int (1 + (i : Int)), rfl, pp, ps, i, _, rfl, ez, SqL.of (sm _ _ hp), hl, fun H2 s2 => ⟨_, rfl, ?_⟩⟩
    cases ht : takenAt ps i with
    | true =>
      refine iteT ⟨.int (1 + (i : Int)), rfl, _, s2 _ _ eD, ?_, same_again nD (sm.trans s2), ?_⟩
      · rw [List.length_map, List.length_map]
        have := List.length_filter_le (takenAt ps) (List.range i)
        rw [List.length_range] at this
        exact small3000 (by omega)
      · rw [upd_same, List.range_succ, List.filter_append, List.filter_cons, ht, ez]
        simp [List.map_append]
    | false =>
      refine iteF ⟨sm.trans s2, ?_⟩
      rw [List.range_succ, List.filter_append, List.filter_cons, ht]
      simp
      rw [s2 _ _ eD]
      simp
  · rintro H' ⟨sm, eD⟩
    have en : ((((ps.map V.int).length : Int) - 2) - 1).toNat = ps.length - 3 := by rw [hm]; omega
    rw [en] at eD
    exact hq _ D sm nD eD
theorem ok_ct {f : Addr} {fd : FuncData} {fTN : Addr} {dTN : FuncData} {fRN : Addr} {dRN : FuncData} {fMY : Addr} {dMY : FuncData} {k : Nat} (F : Fun K "_law_count" "_law_count" sCt f fd) (GTN : FnOk P w K mg base CX0 (k + 1) fTN dTN ["load"] (spTn K)) (gTN : mg "_law_turns" = some (.ref fTN)) (kTN : PySem.W.keepIn K (.ref fTN) = true) (bTN : Binds K dTN ["load"] []) (GRN : FnOk P w K mg base CX0 (k + 1) fRN dRN ["first", "second"] spRng) (gRN : mg "_law_range" = some (.ref fRN)) (kRN : PySem.W.keepIn K (.ref fRN) = true) (bRN : Binds K dRN ["first", "second"] []) (GMY : FnOk P w K mg base CX0 (k + 2) fMY dMY ["points", "k"] (spMy K)) (gMY : mg "_law_may_take" = some (.ref fMY)) (kMY : PySem.W.keepIn K (.ref fMY) = true) (bMY : Binds K dMY ["points", "k"] []) (ml : mg "len" = none) (mr : mg "range" = none) (mso : mg "sorted" = none) : FnOk P w K mg base CX0 (k + 3) f fd ["load"] (spCt K) := by
  refine F.ok scCt (fun vs H Q E h => ?_) (fun cdv A outer s H vs Q E hr h => ?_)
  · obtain ⟨a, ns, rfl, hS, hlen, hq⟩ := h
    rfl
  · obtain ⟨a, ns, rfl, hS, hlen, hq⟩ := h
    refine ⟨_, (pss_cons (ps_asg (pe_tup (pa_cons (pe_call (GTN.mono (show k + 1 ≤ k + 2 by omega)) hr (by rfl) gTN kTN bTN .nil pass0 (pa_cons (pv 0) pa_nil)) (pa_cons (pe_lst pa_nil) pa_nil))) (pg_tup rfl (pgs_cons (pg_name (i := 1) scCt.nd rfl (.inr rfl)) (pgs_cons (pg_name (i := 2) scCt.nd rfl (.inl rfl)) pgs_nil))))
      (pss_cons (ps_setLc (i := 4) (own := [("k", 3)]) (g := gName 3) (tt := tB (tCall (spMy K) [] E0 (tCons (tVar 1) (tCons (tVar 3) tNil))))  rfl scCt.nd rfl rfl (sw_true rfl rfl rfl (by decide +kernel)) (pi_range2 rfl mr (pa_cons pe_int (pa_cons (pe_op op_sub (pe_callB call_len_seq (by rfl) ml PySem.boot_len (pa_cons (pv 1) pa_nil)) pe_int) pa_nil))) (blkOk_by (own := [("k", 3)]) (N := ["load", "points", "cycles", "k", "places"]) (sc := defScope sCt) (by decide +kernel)) (fun _ _ _ _ _ => (pg_name (i := 3) scCt.nd rfl (Or.inl rfl) (Or.inr rfl))) (fun _ _ _ _ _ => pts_one (pt_val (pe_call (GMY.mono (show k + 2 ≤ k + 2 by omega)) hr (by rfl) gMY kMY bMY .nil pass0 (pa_cons (pv 1) (pa_cons (pv 3) pa_nil))))) (fun _ _ _ _ _ => (pv 3)))
      (pss_cons (ps_while PassesOwn.never (pt_cmpR (op_neD hr.units) (pv 4) (pe_lst pa_nil) (nomark _))
      (pss_cons (ps_set (i := 3) scCt.nd rfl (.inl rfl) (pe_ix ix_list (pv 4) pe_int (fun _ _ => rfl)))
      (pss_cons (ps_expr (pe_bm PySem.F.plainAttrs_list PySem.F.slot_list_append PySem.F.type_list_append mt_append (pv 2) (pa_cons (pe_call (GRN.mono (show k + 1 ≤ k + 2 by omega)) hr (by rfl) gRN kRN bRN .nil pass0 (pa_cons (pe_ix ix_list (pv 1) (pv 3) (fun _ _ => rfl)) (pa_cons (pe_ix ix_list (pv 1) (pe_op op_add (pv 3) pe_int) (fun _ _ => rfl)) pa_nil))) pa_nil)))
      (pss_cons (ps_set (i := 1) scCt.nd rfl (.inr rfl) (pe_op op_cat (pe_slice sl_list (pv 1) po_none (po_some (pv 3))) (pe_slice sl_list (pv 1) (po_some (pe_op op_add (pv 3) pe_int)) po_none)))
      (pss_one (ps_setLc (i := 4) (own := [("k", 3)]) (g := gName 3) (tt := tB (tCall (spMy K) [] E0 (tCons (tVar 1) (tCons (tVar 3) tNil))))  rfl scCt.nd rfl rfl (sw_true rfl rfl rfl (by decide +kernel)) (pi_range2 rfl mr (pa_cons pe_int (pa_cons (pe_op op_sub (pe_callB call_len_seq (by rfl) ml PySem.boot_len (pa_cons (pv 1) pa_nil)) pe_int) pa_nil))) (blkOk_by (own := [("k", 3)]) (N := ["load", "points", "cycles", "k", "places"]) (sc := defScope sCt) (by decide +kernel)) (fun _ _ _ _ _ => (pg_name (i := 3) scCt.nd rfl (Or.inl rfl) (Or.inr rfl))) (fun _ _ _ _ _ => pts_one (pt_val (pe_call (GMY.mono (show k + 2 ≤ k + 2 by omega)) hr (by rfl) gMY kMY bMY .nil pass0 (pa_cons (pv 1) (pa_cons (pv 3) pa_nil))))) (fun _ _ _ _ _ => (pv 3))))))))
      (pss_one (ps_ret (pe_tup (pa_cons (pe_callB cr_sortedPO (by rfl) mso (by decide +kernel) (pa_cons (pv 2) pa_nil)) (pa_cons (pv 1) pa_nil)))))))), ?_⟩
    have hl0 : (tp ns).length ≤ ns.length := tp_len ns
    refine ⟨.ref a, rfl, a, ns, rfl, hS, by omega, fun H1 pp s1 np ep => ⟨Nat.zero_le _, fun cc nc => ⟨(show 2 ≤ sizeLine by decide), fun q nq => ?_⟩⟩⟩
    refine ⟨q, [.ref pp, .ref cc], rfl, SqT.of upd_same, rfl, .ref pp, _, rfl, .ref cc, _, rfl, rfl, ?_⟩
    have sc := same_new nc (o := .lst [])
    have sq := same_new nq (o := .tup [.ref pp, .ref cc])
    have ep3 := sq _ _ (sc _ _ ep)
    have ec3 := sq _ _ (upd_same (H := H1) (a := cc) (o := .lst []))
    have s3 := (s1.trans sc).trans sq
    have ncp : pp ≠ cc := fun z => by rw [z, nc] at ep; cases ep
    have nc0 : H cc = none := s1.free nc
    generalize upd (upd H1 cc (.lst [])) q (.tup [.ref pp, .ref cc]) = H3 at ep3 ec3 s3 ⊢
    clear sc sq nq ep s1 nc H1
    dsimp only [tSeq, tAsg, gName]
    refine plc_lc ep3 (by omega) fun H4 D s4 nD eD => ?_
    refine ⟨fun n σ Hx => ∃ (p1 l1 : Addr) (ps : List Int) (xs : List V) (cs : List (Int × Int)) (r3 : Option V), n = ps.length ∧ Same H Hx ∧ H p1 = none ∧ Hx p1 = some (.lst (ps.map V.int)) ∧ Hx cc = some (.lst xs) ∧ p1 ≠ cc ∧ PairsAt Hx xs cs ∧ Hx l1 = some (.lst ((plc ps).map V.int)) ∧ 2 * cs.length + ps.length = (tp ns).length ∧ (∀ x ∈ ps, x ∈ ns) ∧ (∀ q ∈ cs, q.1 ∈ ns ∧ q.2 ∈ ns) ∧ Run (tp ns) cs ps ∧ (cs = [] → ps = tp ns) ∧ (cs ≠ [] → plc (tp ns) ≠ []) ∧ σ = [some (.ref a), some (.ref p1), some (.ref cc), r3, some (.ref l1)],
      ⟨_, pp, D, tp ns, [], [], none, rfl, s3.trans s4, np, s4 _ _ ep3, s4 _ _ ec3, ncp, trivial, eD, by simp, fun x hx => tp_mem hx, fun _ z => (List.not_mem_nil z).elim, .nil _, fun _ => rfl, fun z => absurd rfl z, rfl⟩, ?_⟩
    clear eD nD s4 ec3 ep3 s3 H4 H3 ncp np
    rintro n σ Hx ⟨p1, l1, ps, xs, cs, r3, rfl, sx, np1, hp1, hcx, npc, pa, hl1, hlen2, hmem, hcs, hrun, h0, h1', rfl⟩
    refine ⟨.ref l1, rfl, Nat.zero_le _, fun e1 ne1 => ?_⟩
    have se1 := same_new ne1 (o := .lst [])
    refine ⟨.list (dInts (plc ps)), .list (dInts []), .lst (SqL.of (se1 _ _ hl1)) (dp_ints _), .lst (SqL.of upd_same) (dp_ints []), shaped_lst _, shaped_lst [], _, rfl, ?_⟩
    rw [ev_lst]
    have sy := sx.trans se1
    have hpy := se1 _ _ hp1
    have hcy := se1 _ _ hcx
    have pay := pa.same se1
    have hly := se1 _ _ hl1
    generalize upd Hx e1 (.lst []) = Hy at sy hpy hcy pay hly ⊢
    clear se1 ne1 e1 hl1 pa hcx hp1 sx Hx
    cases hpl : plc ps with
    | nil =>
      refine iteF ?_
      refine ⟨.ref cc, rfl, cc, xs, kOf Hy, rfl, SqL.of hcy, (pairs_key pay).2, fun ys sp g1 g2 nsp => ?_⟩
      obtain ⟨es, pe, perm, srt⟩ := sorted_out pay g1 g2
      have ss := same_new nsp (o := .lst ys)
      refine ⟨.ref p1, rfl, (show 2 ≤ sizeLine by decide), fun tt ntt => ?_⟩
      have st := same_new ntt (o := .tup [.ref sp, .ref p1])
      have el := perm.length_eq
      refine hq _ tt sp p1 ys es ps ((sy.trans ss).trans st) upd_same (st _ _ upd_same) ((pe.same ss).same st) (st _ _ (ss _ _ hpy)) np1 (sy.free nsp) (by omega) (by omega) hmem (fun q hq => hcs q (perm.mem_iff.mp hq)) ?_ ⟨cs, hrun, perm⟩ (nf_of_plc hpl) srt
      cases hc : cs with
      | nil =>
        have e := h0 hc
        rw [decide_eq_true e, ← e, hpl]
        rfl
      | cons c0 cr =>
        have hne : cs ≠ [] := by rw [hc]; exact List.cons_ne_nil _ _
        have g := h1' hne
        have : ps ≠ tp ns := fun z => by
          have := congrArg List.length z
          rw [hc, List.length_cons] at hlen2
          omega
        rw [decide_eq_false this]
        cases hz : plc (tp ns) with
        | nil => exact absurd hz g
        | cons _ _ => rfl
    | cons z zs =>
      obtain ⟨i, rfl, ti⟩ := plc_mem (ps := ps) (x := z) (by rw [hpl]; exact List.mem_cons_self)
      have hil := taken_lt ti
      refine iteT ⟨fun σ Hx => ∃ m', m' < ps.length ∧ ∃ (p1 l1 : Addr) (ps : List Int) (xs : List V) (cs : List (Int × Int)) (r3 : Option V), m' = ps.length ∧ Same H Hx ∧ H p1 = none ∧ Hx p1 = some (.lst (ps.map V.int)) ∧ Hx cc = some (.lst xs) ∧ p1 ≠ cc ∧ PairsAt Hx xs cs ∧ Hx l1 = some (.lst ((plc ps).map V.int)) ∧ 2 * cs.length + ps.length = (tp ns).length ∧ (∀ x ∈ ps, x ∈ ns) ∧ (∀ q ∈ cs, q.1 ∈ ns ∧ q.2 ∈ ns) ∧ Run (tp ns) cs ps ∧ (cs = [] → ps = tp ns) ∧ (cs ≠ [] → plc (tp ns) ≠ []) ∧ σ = [some (.ref a), some (.ref p1), some (.ref cc), r3, some (.ref l1)], fun _ _ z => z, ?_⟩
      rw [hpl] at hly
      obtain ⟨y, e1⟩ : ∃ x, ps[i + 1]? = some x := ⟨_, List.getElem?_eq_getElem (by omega)⟩
      obtain ⟨t, e2⟩ : ∃ x, ps[i + 2]? = some x := ⟨_, List.getElem?_eq_getElem (by omega)⟩
      have a1 : atI (ps.map V.int) ((i : Int) + 1) = some (.int y) := at_of (j := i + 1) (by omega) (at_int e1)
      have a2 : atI (ps.map V.int) ((i : Int) + 1 + 1) = some (.int t) := at_of (j := i + 2) (by omega) (at_int e2)
      refine ⟨.ref l1, rfl, l1, _, 0, .int ((i : Int) + 1), rfl, rfl, SqL.of hly, at_of (j := 0) (by decide) rfl, ?_⟩
      refine ⟨.ref cc, rfl, .inl ⟨rfl, _, SqL.of hcy⟩, .ref p1, rfl, .int ((i : Int) + 1), rfl, p1, _, _, .int y, rfl, rfl, SqL.of hpy, a1, .ref p1, rfl, .int ((i : Int) + 1), rfl, _, 1, rfl, rfl, p1, _, _, .int t, rfl, rfl, SqL.of hpy, a2, y, t, rfl, fun pr npr => ?_⟩
      have spr := same_new npr (o := .tup [.int (rg y t).1, .int (rg y t).2])
      have lxs : xs.length = cs.length := pay.length
      refine ⟨cc, xs, .ref pr, rfl, rfl, spr _ _ hcy, small3000 (by omega), ?_⟩
      have sy5 : Same H (upd (upd Hy pr (.tup [.int (rg y t).1, .int (rg y t).2])) cc (.lst (xs ++ [.ref pr]))) := same_again nc0 (sy.trans spr)
      have hp5 : (upd (upd Hy pr (.tup [.int (rg y t).1, .int (rg y t).2])) cc (.lst (xs ++ [.ref pr]))) p1 = some (.lst (ps.map V.int)) := by rw [upd_ne npc]; exact spr _ _ hpy
      have hc5 : (upd (upd Hy pr (.tup [.int (rg y t).1, .int (rg y t).2])) cc (.lst (xs ++ [.ref pr]))) cc = some (.lst (xs ++ [.ref pr])) := upd_same
      have pa5 : PairsAt (upd (upd Hy pr (.tup [.int (rg y t).1, .int (rg y t).2])) cc (.lst (xs ++ [.ref pr]))) (xs ++ [.ref pr]) (cs ++ [rg y t]) := pairs_upd (spr _ _ hcy) ((pay.same spr).append ⟨⟨pr, rfl, upd_same⟩, trivial⟩)
      generalize upd (upd Hy pr (.tup [.int (rg y t).1, .int (rg y t).2])) cc (.lst (xs ++ [.ref pr])) = H5 at sy5 hp5 hc5 pa5 ⊢
      clear spr npr hcy hpy hly pay sy Hy
      refine ⟨.ref p1, rfl, .int ((i : Int) + 1), rfl, _, rfl, p1, _, rfl, SqL.of hp5, fun q1 n1 => ?_⟩
      have t1 := same_new n1 (o := .lst (cutV (ps.map V.int) none (some ((i : Int) + 1))))
      refine ⟨.ref p1, rfl, .int ((i : Int) + 1), rfl, _, 2, rfl, rfl, _, rfl, p1, _, rfl, SqL.of (t1 _ _ hp5), fun q2 n2 => ?_⟩
      have t2 := same_new n2 (o := .lst (cutV (ps.map V.int) (some ((i : Int) + 1 + 2)) none))
      have k1 : cutV (ps.map V.int) none (some ((i : Int) + 1)) = (ps.take (i + 1)).map V.int := by
        rw [show (i : Int) + 1 = ((i + 1 : Nat) : Int) by omega, cut_to, List.map_take]
      have k2 : cutV (ps.map V.int) (some ((i : Int) + 1 + 2)) none = (ps.drop (i + 3)).map V.int := by
        rw [show (i : Int) + 1 + 2 = ((i + 3 : Nat) : Int) by omega, cut_from, List.map_drop]
      refine ⟨q1, q2, _, _, rfl, rfl, t2 _ _ upd_same, upd_same, ?_, fun q3 n3 => ?_⟩
      · rw [k1, k2, List.length_map, List.length_map, List.length_take, List.length_drop]
        exact Nat.le_of_lt (small3000 (by omega))
      have t3 := same_new n3 (o := .lst (cutV (ps.map V.int) none (some ((i : Int) + 1)) ++ cutV (ps.map V.int) (some ((i : Int) + 1 + 2)) none))
      have tt := (t1.trans t2).trans t3
      have nq3 : q3 ≠ cc := fun z => by
        have := (t1.trans t2) _ _ hc5
        rw [z, this] at n3
        cases n3
      have nH3 : H q3 = none := (sy5.trans (t1.trans t2)).free n3
      have hq3 := upd_same (H := upd (upd H5 q1 (.lst (cutV (ps.map V.int) none (some ((i : Int) + 1))))) q2 (.lst (cutV (ps.map V.int) (some ((i : Int) + 1 + 2)) none))) (a := q3) (o := .lst (cutV (ps.map V.int) none (some ((i : Int) + 1)) ++ cutV (ps.map V.int) (some ((i : Int) + 1 + 2)) none))
      generalize upd (upd (upd H5 q1 (.lst (cutV (ps.map V.int) none (some ((i : Int) + 1))))) q2 (.lst (cutV (ps.map V.int) (some ((i : Int) + 1 + 2)) none))) q3 (.lst (cutV (ps.map V.int) none (some ((i : Int) + 1)) ++ cutV (ps.map V.int) (some ((i : Int) + 1 + 2)) none)) = H6 at tt hq3 ⊢
      rw [k1, k2, ← List.map_append] at hq3
      have lnew : (ps.take (i + 1) ++ ps.drop (i + 3)).length = ps.length - 2 := by rw [List.length_append, List.length_take, List.length_drop]; omega
      dsimp only [tSeq, tAsg, gName]
      refine plc_lc hq3 (by omega) fun H7 D7 s7 n7 e7 => ?_
      refine ⟨(ps.take (i + 1) ++ ps.drop (i + 3)).length, by omega, q3, D7, ps.take (i + 1) ++ ps.drop (i + 3), xs ++ [.ref pr], cs ++ [rg y t], _, rfl, (sy5.trans tt).trans s7, nH3, s7 _ _ hq3, s7 _ _ (tt _ _ hc5), nq3, (pa5.same tt).same s7, e7, by rw [lnew, List.length_append, List.length_singleton]; omega, ?_, ?_, hrun.snoc (step_here ti e1 e2), fun z => absurd z (by simp), fun _ => ?_, rfl⟩
      · intro x hx
        rcases List.mem_append.mp hx with z | z
        · exact hmem x (List.mem_of_mem_take z)
        · exact hmem x (List.mem_of_mem_drop z)
      · intro r hr
        rcases List.mem_append.mp hr with z | z
        · exact hcs r z
        · rw [List.mem_singleton.mp z]
          exact rg_mem (hmem _ (List.mem_of_getElem? e1)) (hmem _ (List.mem_of_getElem? e2))
      · cases hc : cs with
        | nil =>
          rw [← h0 hc, hpl]
          exact List.cons_ne_nil _ _
        | cons _ _ => exact h1' (by rw [hc]; exact List.cons_ne_nil _ _)
end
end M3W

/-! a def of a class whose first statement is super().__init__(a text): an own exception's __init__ -/
namespace XS
open PySem PySem.Spec PyProof.Rows L2 NdefX
structure FunS (K : PySem.W.Frag) (P : Program) (x qual : Str) (st : Stmt) (C : Addr) (f : Addr) (fd : FuncData) : Prop where
  ex : ∃ (oc : Value) (od : Option Addr) (dV kV doc pm : Value) (an : Option Addr) (cda : Addr) (ct : Value) (osl : Array (Option Value)) (cc : Addr) (cl : Value) (cld : Option Addr) (csl : Array (Option Value)) (ccl : Value) (cdd : Option Addr) (vs : Array Value) (ccs : Array (Option Value)) (file : Str) (tf : Tok),
    fd = PySem.W.fnX x qual (defArgs st) (defBody st) (defScope st) [("__class__", cc)] dV kV doc pm an (.ref cda) ct ∧ K.lookup f = some ⟨oc, od, .func fd, osl⟩ ∧ PySem.W.codeIn K (.ref cda) qual = true ∧
    K.lookup cc = some ⟨cl, cld, .cell (some (.ref C)), csl⟩ ∧ K.lookup cda = some ⟨ccl, cdd, .fields vs, ccs⟩ ∧ vs[2]? = some (.str file tf) ∧ ((P.main.file : Str) == file) = true
/-- what the module says of super -/
structure SupK (K : PySem.W.Frag) (P : Program) (mg : Str → Option Value) : Prop where
  top : (P.main.scope.names.lookup ("super" : Str)).isSome = false
  no : mg "super" = none
  any : PySem.W.nsIn K cStatics "thirdparty.any" = some none
/-- the class over ValueError -/
structure SupC (K : PySem.W.Frag) (C : Addr) : Prop where
  oex : OexC K C
  mro : PySem.W.mroIn K C (.ref C) = some true
  sup : PySem.W.ks_superIn K C C "__init__" = some (some (.builtin "ValueError.__init__"))
  sub : PySem.W.subIn K (.ref C) (.type "ValueError") = some true
theorem FnInit_len {p : Str} : ∀ vs : List V, (∃ a v, vs = [V.ref a, v]) → vs.length = (["self", p] : List Str).length := fun vs h => by
  obtain ⟨a, v, rfl⟩ := h
  rfl
section
variable {X : Cx} {pins : List (Addr × Obj)} {σ : L2.St} {H : Hp} {s : Shared} {a C u : Addr}
/-- the bound ValueError.__init__ called: nothing of it is told -/
theorem call_mw {us : List Value} {Q : Value → Shared → Prop} (T : OexC X.K C) (I : Inv X pins σ H s) (e : H a = some (exo a C none)) (hu : s.heap.get? u = some (PySem.W.kxs_mw "ValueError.__init__" a)) (hl : us.length ≤ sizeLine) (h : ∀ s', Inv X pins σ H s' → Q .none s') {A : Around} {E : Value → Shared → Prop} :
    wpAny (model X.prog X.w) A (call (.ref u) us) Q E s := by
  obtain ⟨nm, q, N, bs, bm, sn, sub, ab, col, dd, k0, k1, k2, k3, k5, hC, hbm⟩ := T.cls
  obtain ⟨t1, ho⟩ := exo_at I.hok e
  have hCs := I.kIn _ _ hC
  obtain ⟨hp, g, d, t, os⟩ := s
  refine wpAny_call (codeAny_of_tree ?_)
  show wpAny _ A.in1 (callAny (.ref u) ⟨us, []⟩) _ _ _
  simp only [callAny]
  refine wpAny_bind (wpAny_load hu ?_)
  simp only [PySem.W.kxs_mw, show (Value.type "method-wrapper" == Value.type "method" || Value.type "method-wrapper" == Value.type "builtin_function_or_method" || Value.type "method-wrapper" == Value.type "method-wrapper") = true by decide, if_true]
  refine PySem.W.KFB.if_so (by decide) ?_
  show wpAny _ _ (checkBoundCall "ValueError.__init__" ⟨.ref a :: us, []⟩ >>= fun _ => again (.builtin "ValueError.__init__" ⟨.ref a :: us, []⟩)) _ _ _
  have FB := PySem.F.excBase_ValueError
  refine wpAny_bind (PySem.W.check_bound_init FB.toExcCallFacts hCs ho rfl ?_)
  refine wpAny_pure ⟨plainId_quiet FB.init.plain _, codeAny_builtin FB.initEntry ?_⟩
  rw [Around.under_plainId FB.init.plain _]
  refine PySem.W.exc_init_tree (cls := .ref C) (t0 := t1) (dv := none) (c2 := .none) (c3 := .none) (b4 := .bool false) ho hl fun h' k hx ht => ?_
  have J := I.write (t' := t) (x := a) (e := a) (o := exo a C none) (by rw [e]; exact True.intro) (.inl rfl) k ⟨_, hx⟩ (exo_ok hx)
  have eu : upd H a (exo a C none) = H := by
    funext b
    by_cases hb : b = a
    · rw [hb, upd_same, e]
    · rw [upd_ne hb]
  rw [eu] at J
  exact h _ J
end
theorem lookup_one {k y : Str} {c d : Addr} (e : List.lookup y [(k, c)] = some d) : y = k ∧ d = c := by
  rw [List.lookup_cons] at e
  split at e
  · rename_i h
    exact ⟨by simpa using h, (Option.some.inj e).symm⟩
  · cases e
section
variable {CX : CXT} {P : Program} {w : World} {K : PySem.W.Frag} {mg : Str → Option Value} {base : Heap} {N ps : List Str} {k : Nat} {sp : Sp} {x qual a0 : Str} {st : Stmt} {C f : Addr} {fd : FuncData} {p0 p1 p2 p3 p4 p5 : Pos} {z : Str} {j : Nat} {rest : List Stmt} {pl : Env → Sem Bool}
theorem fn_sup (F : FunS K P x qual st C f fd) (SK : SupK K P mg) (SC : SupC K C)
    (hb : defBody st = .Expr (.Call (.Attribute (.Call (.Name "super" p0) [] [] p1) "__init__" p2) [.Constant (.str z) j p5] [] p3) p4 :: rest)
    (S : NScope N ps ["__class__"] (defScope st)) (hsu : (defScope st).names.lookup ("super" : Str) = some .globalImplicit) (har : ((defArgs st).posonlyargs ++ (defArgs st).args).head?.map (·.arg) = some a0) (hps : ps[0]? = some a0) (hN : N[0]? = some a0) (hda : (a0 == ("__debug__" : Str)) = false)
    (hc : ∀ env, eval (.Call (.Attribute (.Call (.Name "super" p0) [] [] p1) "__init__" p2) [.Constant (.str z) j p5] [] p3) env = (do
      let ov ← attributeBase (.Call (.Name "super" p0) [] [] p1) "__init__" env (eval (.Call (.Name "super" p0) [] [] p1) env)
      standAt p2.atName
      let (f, first) ← holding [ov] (getMethod ov "__init__" (pl env))
      callWith p3 f first (backTo p3 (starEach [.Constant (.str z) j p5] env)) []))
    (len : ∀ vs H Q E, sp vs H Q E → vs.length = ps.length)
    (hbody : ∀ (F : NF) (A : Around) (outer : List Env) (s : Shared) (H : Hp) (vs : List V) (Q : VK) (E : XK), F.scope = defScope st → Room k (A.deeper (envF F f s.heap.objs.size)) → sp vs H Q E →
      ∃ a, vs[0]? = some (.ref a) ∧ H a = some (exo a C none) ∧ ∃ t, PSs (ncx CX P w K mg base N F f A outer s H E) rest t ∧ t { nx := fun _ H' => Q .non H', rt := Q } (startF N vs [none]) H) :
    FnOk P w K mg base CX (k + 1) f fd ps sp := by
  obtain ⟨oc, od, dV, kV, doc, pm, an, cda, ct, osl, cc, cl, cld, csl, ccl, cdd, cvs, ccs, file, tf, rfl, lk, hcd, lcc, lcd, hv2, hfile⟩ := F.ex
  obtain ⟨NFF, hNF⟩ : ∃ NFF : NF, NFF = ⟨x, qual, defArgs st, defBody st, defScope st, [("__class__", cc)], cda⟩ := ⟨_, rfl⟩
  refine ⟨len, fun A outer s H args us vs Q E hr e0 hbd r hsp => ?_⟩
  have hl := len _ _ _ _ hsp
  have KX : K.In s.heap := e0.mod.kin.keeps fun b o e => (e0.bs b o e).1
  have lim : s.heap.NoLimit := e0.mod.nolimit.keeps fun b o e => (e0.bs b o e).1
  have CA : CellsAt NFF.cl ["__class__"] [none] s.heap H := by
    subst hNF
    refine ⟨rfl, fun y c e => ?_, fun y1 y2 c e1 e2 => ?_, fun i y e => ?_⟩
    · obtain ⟨_, rfl⟩ := lookup_one e
      exact ⟨(e0.bs _ _ (e0.mod.kin _ _ lcc)).2, _, ⟨_, KX _ _ lcc, rfl⟩⟩
    · rw [(lookup_one e1).1, (lookup_one e2).1]
    · match i, e with
      | 0, e =>
        cases e
        exact ⟨cc, by simp, fun v e => by cases e⟩
  refine codeAny_call_function hr.depth (KX _ _ lk) rfl S.co S.gen rfl (PySem.W.codeRec_of KX hcd) (hbd _ _ _ _ ?_)
  refine wpAny_newFunctionEnv S.nocell (fun ⟨n, _⟩ hy => S.par n (List.of_mem_zip hy).1) (fun h₁ hns hsb => ⟨lim.fresh _ hsb, ?_⟩) S.kind
  have kp : ∀ b o, s.heap.get? b = some o → h₁.get? b = some o := fun b o e => hsb.extBut b o (Nat.ne_of_lt (Heap.lt_size e)) (Heap.get?_push_of_some _ e)
  obtain ⟨a, hv0, ea, t, ht, hq⟩ := hbody NFF A outer s H vs Q E (by rw [hNF]) (hr.deeper _) hsp
  have I : Inv (ncx CX P w K mg base N NFF f A outer s H E) [] (startF N vs [none]) H { s with heap := h₁, toks := s.toks + (ps.zip us).length } := inv_startN (by rw [hNF]; exact S) hr.hd e0 hl r CA hns kp
  show codeAny _ _ (.func (defBody st) (PySem.W.envX qual (defScope st) s.heap.objs.size f (.ref cda) [("__class__", cc)])) _ _
  refine ks_codeAny_funcAt ?_
  have eqA : A.deeper (PySem.W.envX qual (defScope st) s.heap.objs.size f (.ref cda) [("__class__", cc)]) = (ncx CX P w K mg base N NFF f A outer s H E).A := by rw [hNF]; rfl
  have eqE : PySem.W.envX qual (defScope st) s.heap.objs.size f (.ref cda) [("__class__", cc)] = (ncx CX P w K mg base N NFF f A outer s H E).env := by rw [hNF]; rfl
  rw [hb]
  have hi : interactive (PySem.W.envX qual (defScope st) s.heap.objs.size f (.ref cda) [("__class__", cc)]) = false := by simp [interactive, S.kind]
  refine ks_wpAt_execs_cons (ks_wpAt_Expr_any (ks_wpAt_MethodCall ?_ (hc _)) hi rfl)
  have kO : (PySem.W.envX qual (defScope st) s.heap.objs.size f (.ref cda) [("__class__", cc)]).scope.kind = .function := S.kind
  have IK := I.kIn
  have hcl : (defScope st).names.lookup ("__class__" : Str) = some .free := S.frk _ List.mem_cons_self
  obtain ⟨ar, har1, har2⟩ : ∃ ar : Arg, ((defArgs st).posonlyargs ++ (defArgs st).args).head? = some ar ∧ ar.arg = a0 := by
    cases h : ((defArgs st).posonlyargs ++ (defArgs st).args).head? with
    | none => rw [h] at har; cases har
    | some ar => rw [h] at har; exact ⟨ar, rfl, Option.some.inj har⟩
  refine ks_wpAt_super_base (env := PySem.W.envX qual (defScope st) s.heap.objs.size f (.ref cda) [("__class__", cc)]) hsu hcl (by decide) rfl (IK _ _ lk) rfl har1 rfl (IK _ _ lcd) rfl hv2 hfile SK.top ?_
  obtain ⟨mb, hmb1, hmb2⟩ := I.mod.blt
  refine PySem.W.ks_loadName_global kO hsu (Calls.loadGlobal_builtin (env := PySem.W.envX qual (defScope st) s.heap.objs.size f (.ref cda) [("__class__", cc)]) (I.mod.glob.keeps I.bk) SK.no (hmb1.keeps I.bk) ((hmb2 "super" (by decide)).trans (show bootBuiltins "super" = some (.type "super") by decide +kernel)) ⟨rfl, ?_⟩)
  refine wpAny_loadName_free kO hcl (show List.lookup ("__class__" : Str) [(("__class__" : Str), cc)] = some cc by simp) ⟨_, IK _ _ lcc, rfl⟩ ?_
  obtain ⟨m, hns2, hl2⟩ := I.loc
  have hpm : a0 ∈ ps := List.mem_of_getElem? hps
  have hs0 : (startF N vs [none])[0]? = some (some (.ref a)) := by
    unfold startF
    have : 0 < vs.length := (List.getElem?_eq_some_iff.mp hv0).1
    rw [List.getElem?_append_left (by rw [List.length_map]; exact this), List.getElem?_map, hv0]
    rfl
  obtain ⟨u0, ru0, lk0⟩ := hl2 0 a0 (.ref a) hN hs0 (.inl (by rw [hNF]; exact S.par a0 hpm))
  have ru0 : u0 = Value.ref a := ru0
  subst ru0
  have kl : (PySem.W.envX qual (defScope st) s.heap.objs.size f (.ref cda) [("__class__", cc)]).kindOf a0 = some .local := S.par a0 hpm
  have hm0 : m a0 = some (.ref a) := by
    rcases lk0 with ⟨_, h⟩ | ⟨h, _⟩
    · exact h
    · rw [← eqE, kl] at h
      rcases h with h | h <;> cases h
  rw [har2]
  refine wpAny_loadName_local kO kl (by rw [hNF] at hns2; exact hns2) hm0 ?_
  obtain ⟨nm, q, NN, bs, bm, sn, sub, ab, col, dd, k0, k1, k2, k3, k5, hC, hbm⟩ := SC.oex.cls
  have hCl : PySem.W.clsIn K C = some { name := nm, bases := bs, mro := .ref C :: bm, ns := NN, qualname := q, hasDict := true, slotNames := sn, subclasses := sub, abstract := ab, collection := col, hasDel := false } := by unfold PySem.W.clsIn; rw [hC] <;> rfl
  obtain ⟨t1, ho⟩ := exo_at I.hok ea
  refine ks_wpAny_isType_cls (IK _ _ hC) rfl ⟨rfl, ?_⟩
  refine ks_wpAny_call_super (IK _ _ hC) rfl ho rfl (fun c z => nomatch z) (PySem.W.looks_mroIn IK SC.mro) (fun h2 e2 k2 => ?_)
  have I2 := I.kept (t' := s.toks + (ps.zip us).length) k2
  have IK2 : K.In h2 := I2.kIn
  have IA : PySem.W.InstAt h2 a _ C none := ⟨k2 _ _ ho, rfl, rfl, trivial⟩
  have hm := SC.sup
  unfold PySem.W.ks_superIn at hm
  rw [hCl] at hm
  refine PySem.W.kxs_getMethod PySem.W.kxs_ValueError e2 (PySem.W.looks_opaque IK2 SK.any) (l₀ := .ref C :: bm) (fun A Q E s k q => wpAny_bind ((PySem.W.looks_clsIn IK2 hCl) A _ E s k (wpAny_pure q))) rfl IK2 hm (IA.type.andThen (PySem.W.looks_subIn IK2 SC.sub)) (PySem.W.ks_ne IK2 IA hCl) (by decide) ?_
  have I3 := ClX.pin_new (t' := s.toks + (ps.zip us).length + 1) (o := PySem.W.kxs_mw "ValueError.__init__" a) I2 (fun _ _ z => Heap.get?_push_of_some _ z) (Nat.le_refl _) (Heap.get?_push_size h2 rfl) (fun v z => nomatch z)
  subst hNF
  refine PySem.W.kxs_callWith (i := "ValueError.__init__") (x := a) rfl (PySem.Calls.evalArgs_plain ?_)
  refine thn ((pa_cons pe_str pa_nil : PA (ncx CX P w K mg base N ⟨x, qual, defArgs st, defBody st, defScope st, [("__class__", cc)], cda⟩ f A outer s H E) [.Constant (.str z) j p5] (tCons (tC (.str z)) tNil)).run p3 _ _ _ H (fun vs H' => H' = H ∧ vs.length ≤ 1) I3 ⟨rfl, Nat.le_refl _⟩) fun us2 s2 ⟨vs2, H2, I4, r4, eH, l4⟩ => ?_
  subst eH
  have hu := ClX.pin_at I4
  refine ⟨hu, ?_⟩
  refine call_mw SC.oex (ClX.unpin I4) ea hu (by show us2.length ≤ sizeLine; rw [← Paired.length r4, sizeLine_eq]; omega) fun s5 I5 => ?_
  refine wpAt_of_wpAny (wpAny_mono (ht.run [] _ _ H2 _ I5 hq) (fun fl s' hs => ?_) fun e s' hs => hs)
  have fin : ∀ {σ' : L2.St} {H' : Hp} {v : V} {u : Value}, Inv (ncx CX P w K mg base N ⟨x, qual, defArgs st, defBody st, defScope st, [("__class__", cc)], cda⟩ f A outer s H2 E) [] σ' H' s' → L2.RelV v u → Q v H' → CE outer P w H2 s Q u s' :=
    fun {σ' H' v u} J rv q => ⟨v, H', J.os, J.bare, J.base, J.hok, rv, q⟩
  cases fl with
  | ret u =>
    obtain ⟨v, σ', H', J, rv, q⟩ := hs
    exact fin J rv q
  | next =>
    obtain ⟨σ', H', J, q⟩ := hs
    exact fin (v := V.non) (u := Value.none) J rfl q
  | brk =>
    obtain ⟨_, _, _, q⟩ := hs
    exact False.elim q
  | cont =>
    obtain ⟨_, _, _, q⟩ := hs
    exact False.elim q
end
end XS

/-! an own error's __init__: super().__init__(a text), then self.f = p -/
namespace XS
open PySem PySem.Spec PyProof.Rows L2 NdefX
/-- what it leaves: the error's dict has the field -/
def spInit (C : Addr) (f : Str) : Sp := fun vs H Q _ => ∃ (a : Addr) (v : V), vs = [.ref a, v] ∧ H a = some (exo a C none) ∧ ∀ dx, H dx = none → dx ≠ a → Q .non (upd (upd H dx (exd dx [(f, v)])) a (exo a C (some dx)))
theorem spInit_len {C : Addr} {f p : Str} : ∀ vs H Q E, spInit C f vs H Q E → vs.length = (["self", p] : List Str).length := fun vs H Q E h => by
  obtain ⟨a, v, rfl, _⟩ := h
  rfl
section
variable {CX : CXT} {P : Program} {w : World} {K : PySem.W.Frag} {mg : Str → Option Value} {base : Heap} {k : Nat} {x qual p fld : Str} {st : Stmt} {C f : Addr} {fd : FuncData} {p0 p1 p2 p3 p4 p5 q1 q2 q3 q4 : Pos} {z : Str} {j : Nat} {pl : Env → Sem Bool}
theorem fn_init (F : FunS K P x qual st C f fd) (SK : SupK K P mg) (SC : SupC K C)
    (hb : defBody st = .Expr (.Call (.Attribute (.Call (.Name "super" p0) [] [] p1) "__init__" p2) [.Constant (.str z) j p5] [] p3) p4 :: [.Assign [.Attribute (.Name "self" q1) fld q2] (.Name p q3) q4])
    (S : NScope ["self", p, "__class__"] ["self", p] ["__class__"] (defScope st)) (hsu : (defScope st).names.lookup ("super" : Str) = some .globalImplicit) (har : ((defArgs st).posonlyargs ++ (defArgs st).args).head?.map (·.arg) = some "self")
    (hdp : (p == ("__debug__" : Str)) = false) (hcp : (p == ("__classdict__" : Str)) = false)
    (hls : (defScope st).names.lookup ("self" : Str) = some .local) (hlp : (defScope st).names.lookup p = some .local)
    (hno : PySem.W.findIn K (.ref C) fld = some none)
    (hc : ∀ env, eval (.Call (.Attribute (.Call (.Name "super" p0) [] [] p1) "__init__" p2) [.Constant (.str z) j p5] [] p3) env = (do
      let ov ← attributeBase (.Call (.Name "super" p0) [] [] p1) "__init__" env (eval (.Call (.Name "super" p0) [] [] p1) env)
      standAt p2.atName
      let (f, first) ← holding [ov] (getMethod ov "__init__" (pl env))
      callWith p3 f first (backTo p3 (starEach [.Constant (.str z) j p5] env)) []))
    (hsw : ∀ env, swapsWith (.Name p q3) (some (.Attribute (.Name "self" q1) fld q2)) q4.line env = pure false) :
    FnOk P w K mg base CX (k + 1) f fd ["self", p] (spInit C fld) := by
  refine fn_sup (sp := spInit C fld) F SK SC hb S hsu har rfl rfl (by decide) hc spInit_len fun NFF A outer s H vs Q E hF hr h => ?_
  obtain ⟨a, v, rfl, ea, hq⟩ := h
  refine ⟨a, rfl, ea, _, pss_one (ps_ost (pe_var (i := 0) (x := "self") rfl (.inl ?_) (by decide) (by decide)) (pe_var (i := 1) (x := p) rfl (.inl ?_) hdp hcp) (hsw _)), ?_⟩
  · show NFF.scope.names.lookup ("self" : Str) = some .local
    rw [hF]; exact hls
  · show NFF.scope.names.lookup p = some .local
    rw [hF]; exact hlp
  · exact ⟨v, rfl, .ref a, rfl, a, C, rfl, SC.oex, hno, .inl ⟨ea, fun dx n ne => hq dx n ne⟩⟩
end
end XS

/-! a caught error that is kept behind its suite: caught = error; its fields; isinstance of it -/
namespace PySem.W
open PySem PySem.Spec PySem.Calls PyProof.Rows
section
variable {prog : Program} {w : World} {A : Around} {E : Value → Shared → Prop} {s : Shared} {K : Frag} {x D : Addr} {ox : Obj} {od : Option Obj}
theorem xk_findObj {C : Addr} {name : Str} {a g : Value} (hc : (clsIn K C).isSome = true) (ha : findIn K (.ref C) name = some (some a)) (hg : specialIn K a "__get__" = some (some g)) (ht : takesIn K a = some true) : findObj K C od name = some (.bind g a) := by
  obtain ⟨cd, hc⟩ := Option.isSome_iff_exists.mp hc
  unfold findObj
  rw [hc, Option.bind_some, ha, Option.bind_some]
  simp [hg, ht]
theorem xk_class {Q : Option Value → Shared → Prop} (hga : findIn K (.ref D) "__getattribute__" = some (some (.builtin "BaseException.__getattribute__"))) (hgt : findIn K (.ref D) "__getattr__" = some none) (hsub : subIn K (.ref D) (.type "BaseException") = some true)
    (hdct : hasDictIn K D = true) (ha : findIn K (.ref D) "__class__" = some (some (.builtin "object.__class__")))
    (hn : specialIn K (.builtin "object.__class__") "__get__" = some (some (.builtin "getset_descriptor.__get__"))) (htk : takesIn K (.builtin "object.__class__") = some true) (hm : mroIn K D (.type "object") = some true)
    (X : K.In s.heap) (I : InstAt s.heap x ox D od) (h : Q (some (.ref D)) { s with toks := s.toks + 1 }) : wpAny (model prog w) A (getAttr? (.ref x) "__class__") Q E s := by
  have hf : findObj K D od "__class__" = some (.bind (.builtin "getset_descriptor.__get__") (.builtin "object.__class__")) := xk_findObj (by obtain ⟨cd, hc, _⟩ := any_some hdct; rw [hc]; rfl) ha hn htk
  obtain ⟨hp, g, d, t, os⟩ := s
  have L0 := I.type (M := model prog w)
  have L1 := looks_findIn (M := model prog w) X hga
  have L2 := looks_findIn (M := model prog w) X hgt
  have L3 := looks_find (M := model prog w) X I hf
  have sub : Looks (model prog w) hp (isInstance (.ref x) (.type "BaseException")) true := L0.andThen (looks_subIn X hsub)
  have hx0 : (false && onTheHeap (Value.builtin "BaseException.__getattribute__")) = false := rfl
  have hx2 : (Value.builtin "BaseException.__getattribute__" == Value.builtin "object.__getattribute__") = false := by decide +kernel
  have hx1 : (onTheHeap (Value.ref D) && Value.builtin "BaseException.__getattribute__" == Value.builtin "object.__getattribute__") = false := by rw [hx2]; rfl
  unfold getAttr? getAttrBy? getAttrBy
  refine wpAny_bind (wpAny_mkText (wpAny_bind (wpAny_attempt (wpAny_holding (wpAny_bind (L0.at (wpAny_bind (L1.at ?_))))))))
  show wpAny _ _ (if (onTheHeap (Value.ref D) && Value.builtin "BaseException.__getattribute__" == Value.builtin "object.__getattribute__") = true then _ else _) _ _ _
  rw [hx1, if_neg Bool.false_ne_true]
  unfold getAttrByItsOwn hookBefore
  refine wpAny_bind ?_
  rw [if_pos (show onTheHeap (Value.ref D) = true from rfl)]
  refine L2.at ?_
  refine wpAny_bind (wpAny_attempt (wpAny_holding ?_))
  unfold callGetattribute
  rw [hx0, if_neg Bool.false_ne_true]
  unfold boundAndCalled
  rw [PySem.F.excAttr_ValueError.ga.bind (.ref x)]
  refine wpAny_bind (wpAny_pure ?_)
  show wpAny _ _ (call (.builtin "BaseException.__getattribute__") [.ref x, .str "__class__" t]) _ _ _
  refine wpAny_call (codeAny_call_builtin PySem.F.excAttr_ValueError.ga.plain PySem.F.entry_bexc_ga ?_)
  refine @check_slot (model prog w) _ _ ⟨hp, g, d, t + 1, os⟩ "BaseException.__getattribute__" "BaseException" "__getattribute__" (.ref x) [.str "__class__" t] [] _ (by decide +kernel) (by decide +kernel) sub (PySem.F.args_bexc_ga (.ref x) (.str "__class__" t)) ?_
  unfold Builtin.«object.__getattribute__»
  refine wpAny_bind (wpAny_of_eq (a := ((Value.ref x : Value), [Value.str "__class__" t])) (by first | rfl | (simp only [slotArgs]; rfl)) ?_)
  refine wpAny_bind (wpAny_pure (wpAny_bind (L0.at (wpAny_bind (L3.at ?_)))))
  show wpAny _ _ (holding [Value.builtin "object.__class__"] (call (.builtin "getset_descriptor.__get__") [.builtin "object.__class__", .ref x, .ref D]) >>= ret) _ _ _
  refine wpAny_bind (wpAny_holding (wpAny_call (class_get (s := ⟨hp, g, d, t + 1, os⟩) (ox := ox) (od := od) X I hm ?_)))
  refine wpAny_pure ?_
  show wpAny _ _ (handedOut (.ref D)) _ _ _
  rw [handedOut_of (v := .ref D) rfl]
  first
    | exact wpAny_pure (wpAny_pure h)
    | exact wpAny_pure h
    | exact wpAny_pure (wpAny_bind (wpAny_pure (wpAny_pure h)))
theorem xk_kitx (hga : findIn K (.ref D) "__getattribute__" = some (some (.builtin "BaseException.__getattribute__"))) (hgt : findIn K (.ref D) "__getattr__" = some none) (hsub : subIn K (.ref D) (.type "BaseException") = some true) (hdct : hasDictIn K D = true) (ha : findIn K (.ref D) "__class__" = some (some (.builtin "object.__class__")))
    (hn : specialIn K (.builtin "object.__class__") "__get__" = some (some (.builtin "getset_descriptor.__get__"))) (htk : takesIn K (.builtin "object.__class__") = some true) (hm : mroIn K D (.type "object") = some true) :
    KitX K (.ref x) (.ref D) (fun h => InstAt h x ox D od) where
  ty := fun _ _ _ I => I.type
  it := fun _ _ X _ => by
    obtain ⟨cdD, hcD, _⟩ := any_some hdct
    unfold clsIn at hcD
    split at hcD
    · rename_i c' d' cd' sl' ho
      intro A' Q' E' s' k q
      unfold isType loadHead
      exact wpAny_bind (wpAny_loadPart (k _ _ (X _ _ ho)) (wpAny_pure q))
    · cases hcD
  ne := fun h tp dd its n sl X htp => by
    obtain ⟨cdD, hcD, _⟩ := any_some hdct
    refine Bool.eq_false_iff.mpr fun q => ?_
    have e : D = tp := Value.ref.inj (beq_iff_eq.mp q)
    subst e
    unfold clsIn at hcD
    split at hcD
    · rename_i c' d' cd' sl' ho
      have z := (X _ _ ho).symm.trans htp
      cases z
    · cases hcD
  ca := fun X I k => xk_class hga hgt hsub hdct ha hn htk hm X I k
end
end PySem.W
namespace XS
open PySem PySem.Spec PyProof.Rows L2
/-- at a: an error of the class cls, with the dict d, that is kept -/
def exk (a : Addr) (cls : Value) (d : Option Addr) : HO := .ext fun h => ∃ oe vs, h.get? a = some oe ∧ Zc cls d oe ∧ oe.data = .fields vs
theorem exk_own {e x : Addr} {c : Value} {d : Option Addr} : exk e c d ≠ .own x := fun z => by
  have z' : HO.ext _ = HO.own x := z
  cases z'
theorem exk_tup {e : Addr} {c : Value} {d : Option Addr} {xs : List V} : exk e c d ≠ .tup xs := fun z => by
  have z' : HO.ext _ = HO.tup xs := z
  cases z'
theorem exk_lst {e : Addr} {c : Value} {d : Option Addr} {xs : List V} : exk e c d ≠ .lst xs := fun z => by
  have z' : HO.ext _ = HO.lst xs := z
  cases z'
theorem exk_ok {P : Program} {w : World} {H : Hp} {h : Heap} {e : Addr} {cls : Value} {d : Option Addr} {oe : Obj} {vs : Array Value} (he : h.get? e = some oe) (hz : Zc cls d oe) (hd : oe.data = .fields vs) : ObjOk P w H h e (exk e cls d) :=
  ⟨⟨oe, vs, he, hz, hd⟩, ⟨_, he⟩, fun h1 h2 z k => by
    obtain ⟨o, v, q, r⟩ := z
    exact ⟨o, v, k _ q, r⟩⟩
theorem exk_at {P : Program} {w : World} {H : Hp} {h : Heap} {e : Addr} {cls : Value} {d : Option Addr} (hok : HOk P w H h) (he : H e = some (exk e cls d)) : ∃ oe vs, h.get? e = some oe ∧ Zc cls d oe ∧ oe.data = .fields vs := by
  have x : ObjOk P w H h e (.ext fun h => ∃ oe vs, h.get? e = some oe ∧ Zc cls d oe ∧ oe.data = .fields vs) := hok e _ he
  exact x.1
section
variable {X : Cx} {pins : List (Addr × Obj)} {σ : L2.St} {H : Hp} {s : Shared} {a : Addr} {cls : Value} {d : Option Addr} {oe : Obj} {vs : Array Value}
theorem keep_ok (I : Inv X pins σ H s) (h : s.heap.get? a = some oe) (hz : Zc cls d oe) (hd : oe.data = .fields vs) (na : H a = none) (new : X.s_0.heap.get? a = none) (nL : a ≠ X.env.locals) (hp : ∀ p ∈ X.pn ++ pins, p.1 ≠ a) : Inv X pins σ (upd H a (exk a cls d)) s := by
  have ne : ∀ {b : Addr} {o : HO}, H b = some o → b ≠ a := fun {b o} z => ne_of_none z na
  refine ⟨I.ok, I.os, I.bare, ⟨I.base.keep, I.base.slot, fun b o e n hx => ?_, I.base.there, fun b xs z => ?_, fun b o v z => ?_, fun b ps z => ?_⟩, I.loc, I.cell, ?_, fun x c e => ?_, fun p hpm => ?_, fun b o e => ?_, I.len⟩
  · rw [upd_ne (by rintro rfl; rw [new] at e; cases e)]
    exact I.base.free b o e n hx
  · have z' := I.base.tups b xs z
    rw [upd_ne (ne z')]; exact z'
  · have z' := I.base.frzs b o v z
    rw [upd_ne (ne z')]; exact z'
  · obtain ⟨qs, z'⟩ := I.base.tbls b ps z
    exact ⟨qs, by rw [upd_ne (ne z')]; exact z'⟩
  · rw [upd_ne (Ne.symm nL)]; exact I.free
  · have : c ≠ a := by
      rintro rfl
      obtain ⟨v, o, ho, hdd⟩ := I.cell x c e
      rw [h] at ho; cases ho
      rw [hd] at hdd; cases hdd
    rw [upd_ne this]; exact I.freeC x c e
  · obtain ⟨p1, p2, p3, p4, p5⟩ := I.pin p hpm
    exact ⟨p1, by rw [upd_ne (hp p hpm)]; exact p2, p3, p4, p5⟩
  · by_cases hb : b = a
    · subst hb
      rw [upd_same] at e
      cases e
      exact exk_ok h hz hd
    · rw [upd_ne hb] at e
      exact (I.hok b o e).stay (fun c v hc z => z) (fun c hc => by rw [upd_ne (ne hc)]; exact hc) (fun c xs hc => by rw [upd_ne (ne hc)]; exact hc)
end
/-- what the clause 'except x as n' wishes, where the error may be kept behind it -/
def wAsK (K : PySem.W.Frag) (c : Value) (i : Nat) (ts : Addr → Value → Option Addr → TS) (Wout : WX) (D : Ends) : WX := fun cls d σ H =>
  ∃ b, PySem.W.exmOne K cls c = some b ∧ (b = true → ∀ a, H a = none → ts a cls d { nx := fun σ' H' => D.nx (σ'.set i none) (upd H' a (exk a cls d)), rt := D.rt, bk := fun σ' H' => D.bk (σ'.set i none) H', ct := fun σ' H' => D.ct (σ'.set i none) H' } (σ.set i (some (.ref a))) H) ∧
    (b = false → Wout cls d σ H)
section
variable {X : Cx} {x n : Str} {c : Value} {i : Nat} {body suite : List Stmt} {b₀ : Stmt} {np pos pos' : Pos} {tb : WX → TS} {ts : Addr → Value → Option Addr → TS} {Wout : WX}
theorem ps_try_keep (hs : X.stack = X.env :: X.outer) (hex : X.ex = []) (hf : X.env.frame = some X.env.locals) (hN : X.N.Nodup) (hi : X.N[i]? = some n) (hln : X.env.kindOf n = some .local) (hc : Names X x c) (tk : Takes X Wout)
    (hb : ∀ (W : WX) (pn : List (Addr × Obj)) (xe : Value → Shared → Prop), Takes (X.tr pn xe) W → PassesOwn (model X.prog X.w) X.A X.env xe → PSs (X.tr pn xe) body (tb W))
    (hsu : ∀ (a : Addr) (oe : Obj) (cls : Value) (d : Option Addr) (pn : List (Addr × Obj)), Zc cls d oe → (∃ vs, oe.data = .fields vs) → PSs (X.suite a ((a, oe) :: pn)) (b₀ :: suite) (ts a cls d)) :
    PS X (.Try body [.ExceptHandler (some (.Name x np)) (some n) (b₀ :: suite) pos'] [] [] pos) (fun D σ H => tb (wAsK X.K c i ts Wout D) D σ H) := by
  refine ⟨fun pins s σ H D I h => ?_⟩
  have ok := I.ok
  have hfr : X.A.frames = some (X.env :: X.outer) := by rw [ok.frames, hs]
  have hloc : Loc X.env.scope n := .inl hln
  refine wpAny_Try_except ?_
  refine wpAny_mono ((hb (wAsK X.K c i ts Wout D) (X.pn ++ pins) (fun e s₁ => wpAny (model X.prog X.w) X.A (noteFrame e X.env) (fun _ s₂ => wpAny (model X.prog X.w) X.A (setFlight e none) (fun _ s₃ =>
    wpAny (model X.prog X.w) X.A (handleBy e X.env [.ExceptHandler (some (.Name x np)) (some n) (b₀ :: suite) pos']) (SP X pins D) X.xe s₃) X.xe s₂) X.xe s₁) (fun u s' xx => ?_) PassesOwn.looking).run [] s σ H D (I.toTry _) h) (fun f s1 hsp => ?_) (fun e s1 he => he)
  · -- the catch
    obtain ⟨a, B, sI, pins', σ', H', cls, d, rfl, J', nb, up, sky, na, os, ag, b, hb1, hyes, hno⟩ := xx
    have J : Inv X pins σ' H' sI := J'.ofTry ok
    have sky' : Sky B (X.env :: X.outer) a (Zc cls d) X.env.locals s'.heap := by rw [← hs]; exact sky
    show wpAny (model X.prog X.w) X.A (noteFrame (.ref a) X.env) _ _ _
    refine Sky.land Zc.steady hfr hf sky' fun h3 fl3 up3 => ?_
    have J3 : Inv X pins σ' H' { s' with heap := h3 } := J.landed nb fl3.1 (up.trans up3) os ag
    obtain ⟨oe3, vs3, he3, hz3, hd3⟩ := fl3.there
    have notFr : ∀ {h : Heap} {o : Obj} {vs : Array Value}, h.FunFrames B (X.env :: X.outer) → h.get? a = some o → o.data = .fields vs → a ∉ frs (X.env :: X.outer) := fun {h o vs} ff e dd hm => by
      obtain ⟨_, o', e', hnf⟩ := ff.mem hm
      rw [e] at e'; cases e'
      exact hnf _ dd
    have nfr := notFr fl3.2.2.1 he3 hd3
    have nL : a ≠ X.env.locals := fun z => nfr (List.mem_filterMap.mpr ⟨X.env, List.mem_cons_self, by rw [hf, z]⟩)
    have nF : a ∉ X.fs := fun hm => by
      obtain ⟨e, he, q⟩ := List.mem_filterMap.mp hm
      exact nfr (List.mem_filterMap.mpr ⟨e, List.mem_cons_of_mem _ he, q⟩)
    have nI : sI.heap.get? a = none := by
      cases q : sI.heap.get? a with
      | none => rfl
      | some o =>
        have z := nb a o q (by rw [hs]; exact nfr)
        rw [fl3.2.1] at z; cases z
    have new : X.s_0.heap.get? a = none := by
      cases q : X.s_0.heap.get? a with
      | none => rfl
      | some o =>
        obtain ⟨o', z⟩ := J.base.there a o q (by rw [hex]; simp)
        rw [nI] at z; cases z
    have hpn : ∀ p ∈ X.pn ++ pins, p.1 ≠ a := fun p hp z => by
      have := (J.pin p hp).1
      rw [z, nI] at this; cases this
    have S3 := J3.suite he3 hd3 na nL nF
    refine wpAny_handleBy_cons (codeAny_handlers_test ?_) (by intro q; cases q)
    have LT : PySem.W.Looks (model X.prog X.w) h3 (typeOf (.ref a)) cls := fun A Q E s k q => wpAny_typeOf_ref (k _ _ he3) (by rw [hz3.1]; exact q)
    have LM := PySem.W.exm_one (M := model X.prog X.w) (J3.kIn) LT hb1
    have test : ∀ {Q : Value → Shared → Prop} {E : Value → Shared → Prop}, Q c { s' with heap := h3 } → wpAny (model X.prog X.w) (X.A.mark (some (.ref a))) (eval (.Name x np) X.env) Q E { s' with heap := h3 } := fun {Q E} q => by
      obtain ⟨hg, hdbg, hm | ⟨hm, hv, hnn⟩⟩ := hc
      · exact ld_glob (X := X.suite a ((a, oe3) :: (X.pn ++ pins))) S3 hg hm q hdbg
      · exact ld_blt (X := X.suite a ((a, oe3) :: (X.pn ++ pins))) S3 hg hm hv q hnn hdbg
    refine test (LM.here ?_)
    cases b with
    | true =>
      refine codeAny_handlers_suite_as ?_
      refine HandSPX.lands_againZ fl3 fun h4 fl4 up4 => ?_
      have J4 : Inv X pins σ' H' { s' with heap := h4 } := J.landed nb fl4.1 ((up.trans up3).trans up4) os ag
      obtain ⟨oe4, vs4, he4, hz4, hd4⟩ := fl4.there
      have S4 := J4.suite he4 hd4 na nL nF
      refine store_ok (X := X.suite a ((a, oe4) :: (X.pn ++ pins))) (v := .ref a) S4 hN hi hloc rfl (fun s5 S5 => ?_) (.inr hln)
      refine wpAny_mono ((hsu a oe4 cls d (X.pn ++ pins) hz4 ⟨_, hd4⟩).run [] s5 _ H' _ S5 (hyes rfl a na)) (fun f s6 hsp => ?_) (fun _ _ z => False.elim z)
      have end_ : ∀ {σ6 : L2.St} {H6 : Hp} {Q : Shared → Prop}, Inv (X.suite a ((a, oe4) :: (X.pn ++ pins))) [] σ6 H6 s6 → (∀ s7, Inv X pins (σ6.set i none) H6 s7 → Q s7) →
          wpAny (model X.prog X.w) X.A (do bindName X.env n .none; unbindBehindTheSuite X.env n pos') (fun _ s7 => Q s7) X.xe s6 := fun {σ6 H6 Q} S6 hq => gone_ok (S6.unsuite ok) hN hi hln hq
      cases f with
      | next =>
        obtain ⟨σ6, H6, S6, q6⟩ := hsp
        obtain ⟨p1, p2, p3, p4, p5⟩ := S6.pin (a, oe4) (List.mem_append_left _ List.mem_cons_self)
        exact gone_ok (keep_ok (S6.unsuite ok) p1 hz4 hd4 p2 new p3 hpn) hN hi hln fun s7 J7 => ⟨_, _, J7, q6⟩
      | brk =>
        obtain ⟨σ6, H6, S6, q6⟩ := hsp
        exact end_ S6 fun s7 J7 => ⟨_, _, J7, q6⟩
      | cont =>
        obtain ⟨σ6, H6, S6, q6⟩ := hsp
        exact end_ S6 fun s7 J7 => ⟨_, _, J7, q6⟩
      | ret u =>
        obtain ⟨v6, σ6, H6, S6, r6, q6⟩ := hsp
        exact end_ S6 fun s7 J7 => ⟨_, _, _, J7, r6, q6⟩
    | false =>
      show wpAny _ X.A (handleBy (.ref a) X.env []) _ _ _
      refine wpAny_handleBy_nil ?_
      obtain ⟨k1, k2, k3, oe, vs, T, oT, ts', he, hz, hd, h1, hr⟩ := id fl3
      unfold PySem.passOn
      refine wpAny_bind (wpAny_field he hd h1 ?_)
      rw [if_neg (show ¬ ((Value.ref T == Value.none) = true) from by simp)]
      have fin : wpAny (model X.prog X.w) X.A (setFlight (.ref a) X.env.frame) (fun _ s4 => wpAny (model X.prog X.w) X.A (throw (.ref a) : Sem Flow) (SP X pins D) X.xe s4) X.xe { s' with heap := h3 } := by
        rw [hf]
        refine HandSPX.setFlight_upZ fl3 fun h4 hh4 up4 => wpAny_throw (tk _ _ ?_)
        exact ⟨a, B, sI, pins, σ', H', cls, d, rfl, J, nb, (up.trans up3).trans up4, .inr (.inr (by rw [hs]; exact hh4)), na, os, ag, hno rfl⟩
      first
        | exact wpAny_bind (wpAny_pure (wpAny_bind fin))
        | exact wpAny_bind fin
  · cases f with
    | next =>
      obtain ⟨σ', H', J', q⟩ := hsp
      exact wpAny_execs_nil ⟨σ', H', J'.ofTry ok, q⟩
    | brk =>
      obtain ⟨σ', H', J', q⟩ := hsp
      exact ⟨σ', H', J'.ofTry ok, q⟩
    | cont =>
      obtain ⟨σ', H', J', q⟩ := hsp
      exact ⟨σ', H', J'.ofTry ok, q⟩
    | ret u =>
      obtain ⟨v, σ', H', J', r, q⟩ := hsp
      exact ⟨v, σ', H', J'.ofTry ok, r, q⟩
end
/-- what an own error class says, so that a kept error's field f is read -/
def XfA (K : PySem.W.Frag) (f : Str) (C : Addr) : Prop := XfC K C ∧ PySem.W.findIn K (.ref C) f = some none
/-- e.f, e an error that is kept -/
def tXk (K : PySem.W.Frag) (f : Str) (te : TE) : TE := fun σ H Q => te σ H fun x H1 => ∃ (a C dd : Addr) (fs : List (Str × V)) (v : V), x = .ref a ∧ XfA K f C ∧ H1 a = some (exk a (.ref C) (some dd)) ∧ H1 dd = some (.xd fs) ∧ fs.lookup f = some v ∧ Q v H1
theorem pe_xk {X : Cx} {e : Expr} {te : TE} {pos : Pos} {n : Str} (he : PE X e te) (hb : attributeBase e n X.env (eval e X.env) = eval e X.env := by rfl) :
    PE X (.Attribute e n pos) (tXk X.K n te) := by
  refine ⟨fun pins s σ H Q I h => ?_⟩
  refine attr_of hb (thn (he.run pins s σ H _ I h) fun u s1 hh => ?_)
  obtain ⟨x, H1, I1, rx, a, C, dd, fs, v, ex, ⟨T, hno⟩, ek, ea, l, q⟩ := hh
  subst ex
  obtain rfl : u = Value.ref a := rx
  obtain ⟨oe, vs, ha, hz, hd⟩ := exk_at I1.hok ek
  have hx : ObjOk X.prog X.w H1 s1.heap dd (.xd fs) := I1.hok dd _ ea
  obtain ⟨mA, hns, hr⟩ := hx
  obtain ⟨od, ho, hl⟩ := lookIn_ns hns
  obtain ⟨u, hu, ru⟩ := RelO.some_of (v := v) (o := mA n) (by rw [← l]; exact hr n)
  have J : PySem.W.InstAt s1.heap a oe C (some od) := ⟨ha, hz.1, by unfold PySem.W.notCls; rw [hd] <;> rfl, by rw [hz.2]; exact ho⟩
  exact HandSPX.exc_get I1.kIn J T.ga T.gg T.exC (PySem.W.findObj_own T.hdC hno rfl (by rw [hl, hu])) (handed_of ru) ⟨v, H1, I1.tok _, ru, q⟩
/-- isinstance(e, c), e an error that is kept -/
def rIsK (K : PySem.W.Frag) : List V → Hp → VK → Prop := fun xs H Q => ∃ (a D dd : Addr) (fs : List (Str × V)) (c : V) (cv : Value) (b : Bool), xs = [.ref a, c] ∧ ExcC K D ∧ H a = some (exk a (.ref D) (some dd)) ∧ H dd = some (.xd fs) ∧ (∀ u, RelV c u → u = cv) ∧ PySem.W.kitOne K (.ref D) cv = some b ∧ Q (.bl b) H
theorem call_isK {X : Cx} : CallR X (.builtin "isinstance") (rIsK X.K) := by
  intro pins s σ H xs us Q I r h
  obtain ⟨a, D, dd, fs, c, cv, b, rfl, C, ek, ea, hcv, e, q⟩ := h
  cases r with
  | cons rx rr =>
    cases rr with
    | cons rt rr =>
      cases rr
      cases rx
      have ec := hcv _ rt
      subst ec
      obtain ⟨oe, vs, hget, hz, hv⟩ := exk_at I.hok ek
      have hx : ObjOk X.prog X.w H s.heap dd (.xd fs) := I.hok dd _ ea
      obtain ⟨mA, hns, hr⟩ := hx
      obtain ⟨od, ho, hl⟩ := lookIn_ns hns
      have J : PySem.W.InstAt s.heap a oe D (some od) := ⟨hget, hz.1, by unfold PySem.W.notCls; rw [hv] <;> rfl, by rw [hz.2]; exact ho⟩
      exact PySem.W.kia_one (PySem.W.xk_kitx C.hg C.hk C.hs C.hd C.ha C.hn C.ht C.hm) I.kIn J e (fun z => nomatch z) fun tk => ⟨.bl b, H, I.kept (t' := tk) fun _ _ z => z, rfl, q⟩
end XS

/-! sorted of a list of triples of ints, up and down -/
namespace GS2
open PySem PySem.Spec PyProof.Rows L2 SrtO
/-- a tuple of these ints -/
def IsTI (h : Heap) (v : Value) (ns : List Int) : Prop := ∃ (a : Addr) (o : Obj) (items : Array Value) (n : Nat), v = .ref a ∧ h.get? a = some o ∧ o.cls = .type "tuple" ∧ o.data = .seq items n ∧ IntsAre items.toList ns
theorem IsTI.keeps {h h' : Heap} {v : Value} {ns : List Int} (x : IsTI h v ns) (k : ∀ b o, h.get? b = some o → o.cls = .type "tuple" → h'.get? b = some o) : IsTI h' v ns := by
  obtain ⟨a, o, items, n, e, ho, hc, hd, hi⟩ := x
  exact ⟨a, o, items, n, e, k a o ho hc, hc, hd, hi⟩
section
variable {prog : Program} {w : World} {A : Around} {s : Shared}
theorem kat_ints {Q : Bool → Shared → Prop} : ∀ (ns ms : List Int) (vs ws : List Value) (i : Nat), IntsAre vs ns → IntsAre ws ms → ns.length = ms.length → Q (HT.lexLt ns ms) s → PySem.W.KatLex prog w A true false Q (vs.zip ws) i s
  | [], [], _, _, i, .nil, .nil, _, h => PySem.W.kat_nil h
  | x :: ns, y :: ms, _, _, i, .cons _ t h1, .cons _ u h2, hl, h => by
    have hl2 : ns.length = ms.length := by simpa using hl
    rw [HT.lexLt_cons] at h
    rw [List.zip_cons_cons]
    refine PySem.W.kat_cons (SeqAt.EqAt.int_int x t y u prog w _ _ ?_)
    refine PySem.W.kat_go (fun e1 => ?_) (fun e1 => ?_)
    · have ex : x = y := by simpa using e1
      rw [if_pos ex] at h
      exact PySem.W.kat_yes (kat_ints ns ms _ _ (i + 1) h1 h2 hl2 h)
    · have ex : ¬ x = y := by simpa using e1
      rw [if_neg ex] at h
      cases i with
      | zero => exact PySem.W.kat_no (oneLt_int h)
      | succ i => exact PySem.W.kat_no (PySem.W.kat_one _ _ (PyProof.Rows.lt_int h))
  | [], _ :: _, _, _, _, _, _, hl, _ => by simp at hl
  | _ :: _, [], _, _, _, _, _, hl, _ => by simp at hl
theorem ints_cmp {vs : List Value} {k : Value → List Int} {d : Nat} (hp : ∀ v ∈ vs, IsTI s.heap v (k v) ∧ (k v).length = d) : Cmp prog w A s (tuples' true) (fun p => p.1 ∈ vs) (lt2 fun v u => HT.lexLt (k v) (k u)) := by
  intro p q hm hm'
  obtain ⟨⟨a, o, xs, n, e, ho, hc, hd, hi⟩, l1⟩ := hp _ hm
  obtain ⟨⟨b, ob, ys, m, e2, ho2, hc2, hd2, hi2⟩, l2⟩ := hp _ hm'
  show wpAny (model prog w) A (keyLt' (tuples' true) p.1 q.1) (fun r s' => s' = s ∧ r = HT.lexLt (k p.1) (k q.1)) (fun _ _ => False) s
  generalize k p.1 = ns at *
  generalize k q.1 = ms at *
  rw [e, e2]
  refine PySem.W.kat_lt ho hd ho2 hd2 ?_
  have z1 := hi.length
  have z2 := hi2.length
  rw [Array.length_toList] at z1 z2
  rw [show decide (xs.size < ys.size) = false from decide_eq_false (by omega)]
  exact kat_ints ns ms _ _ 0 hi hi2 (by omega) ⟨rfl, rfl⟩
theorem firsts {h : Heap} : ∀ {vs : List Value} {k : Value → List Int}, (∀ v ∈ vs, IsTI h v (k v) ∧ (k v).length = 2) → ∃ fs : List Value, PySem.W.KatTups h vs fs ∧ fs.length = vs.length ∧ ∀ f ∈ fs, ∃ x t, f = Value.int x t
  | [], _, _ => ⟨[], PySem.W.KatTups.nil, rfl, fun _ hm => by simp at hm⟩
  | v :: vs, k, hp => by
    obtain ⟨fs, h1, h2, h3⟩ := firsts (vs := vs) (k := k) fun v' hm => hp v' (List.mem_cons_of_mem _ hm)
    obtain ⟨⟨a, o, xs, n, e, ho, hc, hd, hi⟩, l⟩ := hp v (List.mem_cons_self ..)
    generalize k v = ns at hi l
    subst e
    obtain ⟨y, ys, e⟩ : ∃ y ys, xs.toList = y :: ys := by
      cases q : xs.toList with
      | nil =>
        rw [q] at hi
        cases hi
        simp at l
      | cons y ys => exact ⟨y, ys, rfl⟩
    rw [e] at hi
    cases hi with
    | cons x t hr =>
      refine ⟨.int x t :: fs, PySem.W.KatTups.cons ho hc hd (by rw [← Array.getElem?_toList, e]; rfl) h1, by rw [List.length_cons, List.length_cons, h2], fun f hm => ?_⟩
      rcases List.mem_cons.mp hm with rfl | hm
      · exact ⟨x, t, rfl⟩
      · exact h3 f hm
theorem ints_sortable {a : Addr} {vs : List Value} {k : Value → List Int} (h0 : 0 < vs.length) (hp : ∀ v ∈ vs, IsTI s.heap v (k v) ∧ (k v).length = 2) (ha : ∀ o, s.heap.get? a = some o → o.cls ≠ .type "tuple") : SortableO prog w A s a vs fun v u => HT.lexLt (k v) (k u) := by
  intro h' keep
  have hp' : ∀ v ∈ vs, IsTI h' v (k v) ∧ (k v).length = 2 := fun v hm => ⟨(hp v hm).1.keeps fun b o e c => keep b o (fun z => by subst z; exact ha o e c) e, (hp v hm).2⟩
  obtain ⟨fs, h1, h2, h3⟩ := firsts hp'
  refine ⟨tuples' true, fun Q E hq => ?_, ints_cmp (s := { s with heap := h' }) hp'⟩
  refine PySem.W.kat_kind (T := .type "int") h1 (by omega) (fun f hm => ?_) (by rfl) ?_
  · obtain ⟨x, t, rfl⟩ := h3 f hm
    exact PySem.W.Looks.now
  · have e : (Value.type "int" != Value.type "tuple") = true := by first | decide +kernel | rfl | decide
    rw [e]
    exact hq
end
section
variable {X : Cx}
def rSortT (K : PySem.W.Frag) (b : Bool) (a : Addr) (H : Hp) (Q : VK) : Prop := ∃ (xs : List V) (k : V → List Int), SqL K H a xs ∧ (∀ x ∈ xs, ∃ t, x = V.ref t ∧ H t = some (.tup ((k x).map V.int)) ∧ (k x).length = 2) ∧
  ∀ ys p, (ys.Pairwise fun x y => HT.lexLt (k y) (k x) = false) → ys.Perm xs → H p = none → Q (.ref p) (upd H p (.lst (if b = true then ys.reverse else ys)))
theorem ti_of {pins : List (Addr × Obj)} {s : Shared} {σ : L2.St} {H : Hp} (I : Inv X pins σ H s) {t : Addr} {ns : List Int} (ht : H t = some (.tup (ns.map V.int))) : IsTI s.heap (.ref t) ns := by
  obtain ⟨_, its, r, o, ho, hc, n, hd⟩ := (show ObjOk X.prog X.w H s.heap t (.tup (ns.map V.int)) from I.hok _ _ ht)
  exact ⟨t, o, its.toArray, n, rfl, ho, hc, hd, intsAre_of r⟩
theorem not_tup {h : Heap} {a : Addr} {vs : List Value} {n : Nat} (ha : h.get? a = some (seqObj "list" vs.toArray n)) : ∀ o, h.get? a = some o → o.cls ≠ .type "tuple" := fun o e => by
  rw [ha] at e
  cases e
  intro c
  exact absurd (Value.type.inj c) (by decide)
theorem cr_sortedT2 : CallR X (.builtin "sorted") (fun vs H Q => ∃ a, vs = [.ref a] ∧ rSortT X.K false a H Q) := by
  intro pins s σ H vs us Q I r h
  obtain ⟨a, rfl, xs, k, hs, hx, q⟩ := h
  obtain ⟨its, rv, hl, hz⟩ := I.list hs
  obtain rfl := Vals.ref1 r
  obtain ⟨e1, e2⟩ := refs_back rv fun x m => by
    obtain ⟨t, e, _⟩ := hx x m
    exact ⟨t, e⟩
  have hp : ∀ v ∈ its, IsTI s.heap v (k (backV v)) ∧ (k (backV v)).length = 2 := fun v hv => by
    obtain ⟨t, rfl⟩ := e2 v hv
    have hm : V.ref t ∈ xs := by rw [e1]; exact List.mem_map.mpr ⟨_, hv, rfl⟩
    obtain ⟨t', e, ht, h3⟩ := hx _ hm
    cases e
    exact ⟨ti_of I ht, h3⟩
  have hzl : its.length ≤ sizeLine := by rw [← rv.length]; exact hz
  refine sorted_ord (NtL.swo_lexL fun u => k (backV u)) hl.isList hzl (fun h2 h₁ a' g kk => ints_sortable (s := { s with heap := h₁ }) (by omega) (fun v hv => ⟨(hp v hv).1.keeps fun b o e _ => (kk b o e).2, (hp v hv).2⟩) (not_tup g)) fun out h1 h2 => ?_
  have h3 : ∀ u ∈ out, ∃ a, u = Value.ref a := fun u hu => e2 u (h2.perm.mem_iff.mp hu)
  obtain ⟨n, hn⟩ := sortedAll_at s.heap its out.toArray
  have pm : (out.map backV).Perm xs := by rw [e1]; exact h2.perm.map _
  refine ⟨.ref _, upd H (s.heap.objs.size + 1) (.lst (out.map backV)), I.laid (t' := s.toks) (fun _ _ => sortedAll_old) (Nat.le_succ _) ⟨?_, out, n, vals_back h3, hn⟩, rfl, q _ _ (List.pairwise_map.mpr (h1.imp fun {x y} z => z)) pm (I.hok.fresh (Nat.le_succ _))⟩
  rw [pm.length_eq]
  exact hz
theorem cr_sortedT2R : CallRK X (.builtin "sorted") [Str.ofString "reverse"] (fun vs zs H Q => ∃ a, vs = [.ref a] ∧ zs = [.bl true] ∧ rSortT X.K true a H Q) := by
  intro pins s σ H vs zs us ws Q I r rz h
  obtain ⟨a, rfl, rfl, xs, k, hs, hx, q⟩ := h
  obtain ⟨its, rv, hl, hz⟩ := I.list hs
  obtain rfl := Vals.ref1 r
  obtain ⟨w1, rfl, ew⟩ := vals1 rz
  obtain rfl : w1 = Value.bool true := ew
  obtain ⟨e1, e2⟩ := refs_back rv fun x m => by
    obtain ⟨t, e, _⟩ := hx x m
    exact ⟨t, e⟩
  have hp : ∀ v ∈ its, IsTI s.heap v (k (backV v)) ∧ (k (backV v)).length = 2 := fun v hv => by
    obtain ⟨t, rfl⟩ := e2 v hv
    have hm : V.ref t ∈ xs := by rw [e1]; exact List.mem_map.mpr ⟨_, hv, rfl⟩
    obtain ⟨t', e, ht, h3⟩ := hx _ hm
    cases e
    exact ⟨ti_of I ht, h3⟩
  have hzl : its.length ≤ sizeLine := by rw [← rv.length]; exact hz
  refine SrtR.sorted_ordK (b := true) (fun _ => rfl) (PyProof.Rows.args_sorted_rev _ _) (fun _ => PyProof.Rows.args_list_sort_rev _ _) (NtL.swo_lexL fun u => k (backV u)) hl.isList hzl (fun h2 h₁ a' g kk => ints_sortable (s := { s with heap := h₁ }) (by omega) (fun v hv => ⟨(hp v hv).1.keeps fun b o e _ => (kk b o e).2, (hp v hv).2⟩) (not_tup g)) fun out h1 h2 => ?_
  have pm0 : out.Perm its := h2.perm.trans (List.reverse_perm _)
  have h3 : ∀ u ∈ out, ∃ a, u = Value.ref a := fun u hu => e2 u (pm0.mem_iff.mp hu)
  have h3r : ∀ u ∈ out.reverse, ∃ a, u = Value.ref a := fun u hu => h3 u (List.mem_reverse.mp hu)
  obtain ⟨n, hn⟩ := sortedAll_at s.heap its (if true = true then out.toArray.reverse else out.toArray)
  have pm : (out.map backV).Perm xs := by rw [e1]; exact pm0.map _
  have e0 : (if true = true then out.toArray.reverse else out.toArray) = out.reverse.toArray := by rw [if_pos rfl]; simp
  rw [e0] at hn ⊢
  refine ⟨.ref _, upd H (s.heap.objs.size + 1) (.lst (out.map backV).reverse), I.laid (t' := s.toks) (fun _ _ => sortedAll_old) (Nat.le_succ _) ⟨?_, out.reverse, n, by rw [← List.map_reverse]; exact vals_back h3r, hn⟩, rfl, q _ _ (List.pairwise_map.mpr (h1.imp fun {x y} z => z)) pm (I.hok.fresh (Nat.le_succ _))⟩
  rw [List.length_reverse, pm.length_eq]
  exact hz
end
end GS2

/-! cycles put into a swing that is around them; the greatest swing of a rest -/
namespace K31
open PM RM
/-- a pair put in between y and b -/
theorem zz_ins_up {y h l b : Int} {post : List Int} (h1 : y < h) (h2 : l < h) (h3 : l < b) : ∀ q : List Int, y < b → ZZ (q ++ y :: b :: post) → ZZ (q ++ y :: h :: l :: b :: post)
  | [], hy, z => by
    refine ⟨.inl ⟨h1, h2⟩, .inr ⟨h2, h3⟩, ?_⟩
    cases post with
    | nil => show l ≠ b; omega
    | cons p post =>
      have := z.1
      exact ⟨.inl ⟨h3, by omega⟩, z.2⟩
  | [x], hy, z => by
    have z1 : ((x < y ∧ b < y) ∨ (y < x ∧ y < b)) := z.1
    exact ⟨.inr ⟨by omega, h1⟩, zz_ins_up h1 h2 h3 [] hy z.2⟩
  | x :: x2 :: q, hy, z => by
    cases q with
    | nil =>
      have z1 : ((x < x2 ∧ y < x2) ∨ (x2 < x ∧ x2 < y)) := z.1
      exact ⟨z1, zz_ins_up h1 h2 h3 [x2] hy z.2⟩
    | cons x3 q => exact ⟨z.1, zz_ins_up h1 h2 h3 (x2 :: x3 :: q) hy z.2⟩
theorem zz_ins_dn {y h l b : Int} {post : List Int} (h1 : l < y) (h2 : l < h) (h3 : b < h) : ∀ q : List Int, b < y → ZZ (q ++ y :: b :: post) → ZZ (q ++ y :: l :: h :: b :: post)
  | [], hy, z => by
    refine ⟨.inr ⟨h1, h2⟩, .inl ⟨h2, h3⟩, ?_⟩
    cases post with
    | nil => show h ≠ b; omega
    | cons p post =>
      have := z.1
      exact ⟨.inr ⟨h3, by omega⟩, z.2⟩
  | [x], hy, z => by
    have z1 : ((x < y ∧ b < y) ∨ (y < x ∧ y < b)) := z.1
    exact ⟨.inl ⟨by omega, h1⟩, zz_ins_dn h1 h2 h3 [] hy z.2⟩
  | x :: x2 :: q, hy, z => by
    cases q with
    | nil =>
      have z1 : ((x < x2 ∧ y < x2) ∨ (x2 < x ∧ x2 < y)) := z.1
      exact ⟨z1, zz_ins_dn h1 h2 h3 [x2] hy z.2⟩
    | cons x3 q => exact ⟨z.1, zz_ins_dn h1 h2 h3 (x2 :: x3 :: q) hy z.2⟩
theorem step_pre {p q : List Int} {c : Int × Int} (s : Step p c q) : ∀ l : List Int, Step (l ++ p) c (l ++ q)
  | [] => s
  | _ :: l => .there (step_pre s l)
/-- the points that are put in on the way up -/
def up : List (Int × Int) → List Int
  | [] => []
  | c :: cs => c.2 :: c.1 :: up cs
def dn : List (Int × Int) → List Int
  | [] => []
  | c :: cs => c.1 :: c.2 :: dn cs
theorem up_app (cs ds : List (Int × Int)) : up (cs ++ ds) = up cs ++ up ds := by
  induction cs with
  | nil => rfl
  | cons c cs ih => rw [List.cons_append]; show _ :: _ :: up (cs ++ ds) = _; rw [ih]; rfl
theorem dn_app (cs ds : List (Int × Int)) : dn (cs ++ ds) = dn cs ++ dn ds := by
  induction cs with
  | nil => rfl
  | cons c cs ih => rw [List.cons_append]; show _ :: _ :: dn (cs ++ ds) = _; rw [ih]; rfl
/-- the point ahead of the last cycle -/
theorem up_last {x lo : Int} : ∀ cs : List (Int × Int), x ≤ lo → (∀ c ∈ cs, c.1 ≤ lo) → ∃ q y, x :: up cs = q ++ [y] ∧ y ≤ lo
  | [], h, _ => ⟨[], x, rfl, h⟩
  | c :: cs, h, hc => by
    obtain ⟨q, y, e, hy⟩ := up_last (x := c.1) cs (hc c List.mem_cons_self) fun d hd => hc d (List.mem_cons_of_mem _ hd)
    refine ⟨x :: c.2 :: q, y, ?_, hy⟩
    show x :: c.2 :: c.1 :: up cs = _
    rw [e]; rfl
theorem dn_last {x hi : Int} : ∀ cs : List (Int × Int), hi ≤ x → (∀ c ∈ cs, hi ≤ c.2) → ∃ q y, x :: dn cs = q ++ [y] ∧ hi ≤ y
  | [], h, _ => ⟨[], x, rfl, h⟩
  | c :: cs, h, hc => by
    obtain ⟨q, y, e, hy⟩ := dn_last (x := c.2) cs (hc c List.mem_cons_self) fun d hd => hc d (List.mem_cons_of_mem _ hd)
    refine ⟨x :: c.1 :: q, y, ?_, hy⟩
    show x :: c.1 :: c.2 :: dn cs = _
    rw [e]; rfl
/-- on the way up: they go out again, the last one first -/
theorem up_run {x b : Int} {post : List Int} (pre : List Int) (hxb : x < b) (z0 : ZZ (pre ++ x :: b :: post)) : ∀ cs : List (Int × Int), (∀ c ∈ cs, x ≤ c.1 ∧ c.1 < c.2 ∧ c.2 ≤ b) → cs.Pairwise (fun c d => c.1 ≤ d.1) →
    Run (pre ++ (x :: up cs) ++ b :: post) cs.reverse (pre ++ x :: b :: post) ∧ ZZ (pre ++ (x :: up cs) ++ b :: post) := by
  intro cs
  obtain ⟨ds, hds⟩ : ∃ ds, ds = cs.reverse := ⟨_, rfl⟩
  induction ds generalizing cs with
  | nil =>
    intro _ _
    obtain rfl : cs = [] := by simpa using hds.symm
    exact ⟨by show Run (pre ++ [x] ++ b :: post) [] _; rw [List.append_assoc]; exact .nil _, by show ZZ (pre ++ [x] ++ b :: post); rw [List.append_assoc]; exact z0⟩
  | cons c ds ih =>
    intro hb hp
    have ec : cs = ds.reverse ++ [c] := by rw [← List.reverse_reverse cs, ← hds, List.reverse_cons]
    subst ec
    obtain ⟨r, z⟩ := ih ds.reverse (by rw [List.reverse_reverse]) (fun d hd => hb d (List.mem_append_left _ hd)) (List.pairwise_append.mp hp).1
    have hc := hb c (by simp)
    have hl : ∀ d ∈ ds.reverse, d.1 ≤ c.1 := fun d hd => (List.pairwise_append.mp hp).2.2 d hd c (by simp)
    obtain ⟨q, y, e, hy⟩ := up_last (x := x) ds.reverse hc.1 hl
    have e2 : pre ++ (x :: up (ds.reverse ++ [c])) ++ b :: post = (pre ++ q) ++ y :: c.2 :: c.1 :: b :: post := by
      rw [up_app, show x :: (up ds.reverse ++ up [c]) = (x :: up ds.reverse) ++ [c.2, c.1] from rfl, e]
      simp
    have e3 : pre ++ (x :: up ds.reverse) ++ b :: post = (pre ++ q) ++ y :: b :: post := by rw [e]; simp
    rw [e2]
    rw [e3] at r z
    have tk : Taken y c.2 c.1 b := by
      unfold Taken
      rw [rg_up (show y < c.2 by omega), rg_down hc.2.1, rg_up (show c.1 < b by omega)]
      dsimp only
      omega
    have st : Step ((pre ++ q) ++ y :: c.2 :: c.1 :: b :: post) (rg c.2 c.1) ((pre ++ q) ++ y :: b :: post) := step_pre (.here tk) _
    rw [rg_down hc.2.1] at st
    refine ⟨?_, zz_ins_up (by omega) hc.2.1 (by omega) _ (by omega) z⟩
    rw [List.reverse_append, List.reverse_reverse] at *
    exact .cons st (by simpa using r)
theorem dn_run {x b : Int} {post : List Int} (pre : List Int) (hxb : b < x) (z0 : ZZ (pre ++ x :: b :: post)) : ∀ cs : List (Int × Int), (∀ c ∈ cs, b ≤ c.1 ∧ c.1 < c.2 ∧ c.2 ≤ x) → cs.Pairwise (fun c d => d.2 ≤ c.2) →
    Run (pre ++ (x :: dn cs) ++ b :: post) cs.reverse (pre ++ x :: b :: post) ∧ ZZ (pre ++ (x :: dn cs) ++ b :: post) := by
  intro cs
  obtain ⟨ds, hds⟩ : ∃ ds, ds = cs.reverse := ⟨_, rfl⟩
  induction ds generalizing cs with
  | nil =>
    intro _ _
    obtain rfl : cs = [] := by simpa using hds.symm
    exact ⟨by show Run (pre ++ [x] ++ b :: post) [] _; rw [List.append_assoc]; exact .nil _, by show ZZ (pre ++ [x] ++ b :: post); rw [List.append_assoc]; exact z0⟩
  | cons c ds ih =>
    intro hb hp
    have ec : cs = ds.reverse ++ [c] := by rw [← List.reverse_reverse cs, ← hds, List.reverse_cons]
    subst ec
    obtain ⟨r, z⟩ := ih ds.reverse (by rw [List.reverse_reverse]) (fun d hd => hb d (List.mem_append_left _ hd)) (List.pairwise_append.mp hp).1
    have hc := hb c (by simp)
    have hl : ∀ d ∈ ds.reverse, c.2 ≤ d.2 := fun d hd => (List.pairwise_append.mp hp).2.2 d hd c (by simp)
    obtain ⟨q, y, e, hy⟩ := dn_last (x := x) ds.reverse hc.2.2 hl
    have e2 : pre ++ (x :: dn (ds.reverse ++ [c])) ++ b :: post = (pre ++ q) ++ y :: c.1 :: c.2 :: b :: post := by
      rw [dn_app, show x :: (dn ds.reverse ++ dn [c]) = (x :: dn ds.reverse) ++ [c.1, c.2] from rfl, e]
      simp
    have e3 : pre ++ (x :: dn ds.reverse) ++ b :: post = (pre ++ q) ++ y :: b :: post := by rw [e]; simp
    rw [e2]
    rw [e3] at r z
    have tk : Taken y c.1 c.2 b := by
      unfold Taken
      rw [rg_down (show c.1 < y by omega), rg_up hc.2.1, rg_down (show b < c.2 by omega)]
      dsimp only
      omega
    have st : Step ((pre ++ q) ++ y :: c.1 :: c.2 :: b :: post) (rg c.1 c.2) ((pre ++ q) ++ y :: b :: post) := step_pre (.here tk) _
    rw [rg_up hc.2.1] at st
    refine ⟨?_, zz_ins_dn (by omega) hc.2.1 (by omega) _ (by omega) z⟩
    rw [List.reverse_append, List.reverse_reverse] at *
    exact .cons st (by simpa using r)
/-- x is between a and b -/
def Bw (a b x : Int) : Prop := (a ≤ x ∧ x ≤ b) ∨ (b ≤ x ∧ x ≤ a)
theorem nf_tail {x : Int} {p : List Int} (h : NF (x :: p)) : NF p := fun c q s => h c _ (.there s)
/-- behind a swing that is not less than the next one, all lies within it -/
theorem right_in : ∀ (l : List Int) (a b c : Int), ZZ (a :: b :: c :: l) → NF (a :: b :: c :: l) → Bw a b c → ∀ x ∈ c :: l, Bw a b x
  | [], a, b, c, _, _, h, x, hx => by
    obtain rfl : x = c := by simpa using hx
    exact h
  | d :: l, a, b, c, z, n, h, x, hx => by
    rcases List.mem_cons.mp hx with rfl | hx
    · exact h
    have nt : ¬ Taken a b c d := fun t => n _ _ (.here t)
    have z4 := ZZ.four z
    have hcd : Bw b c d := by
      rw [taken_iff z4] at nt
      have z1 := z4.1
      have z2 := z4.2.1
      unfold Bw at h ⊢
      omega
    have := right_in l b c d (ZZ.tail z) (nf_tail n) hcd x hx
    unfold Bw at h this ⊢
    omega
/-- one swing of a rest is around all its points -/
theorem swing_all : ∀ (l : List Int) (x y : Int), ZZ (x :: y :: l) → NF (x :: y :: l) → ∃ pre a b post, x :: y :: l = pre ++ a :: b :: post ∧ ∀ u ∈ x :: y :: l, Bw a b u
  | [], x, y, _, _ => ⟨[], x, y, [], rfl, fun u hu => by
      simp only [List.mem_cons, List.not_mem_nil, or_false] at hu
      unfold Bw
      rcases hu with rfl | rfl <;> omega⟩
  | w :: l, x, y, z, n => by
    by_cases h : Bw x y w
    · refine ⟨[], x, y, w :: l, rfl, fun u hu => ?_⟩
      rcases List.mem_cons.mp hu with rfl | hu
      · unfold Bw; omega
      rcases List.mem_cons.mp hu with rfl | hu
      · unfold Bw; omega
      exact right_in l x y w z n h u hu
    · obtain ⟨pre, a, b, post, e, hall⟩ := swing_all l y w (ZZ.tail z) (nf_tail n)
      refine ⟨x :: pre, a, b, post, by rw [e]; rfl, fun u hu => ?_⟩
      rcases List.mem_cons.mp hu with rfl | hu
      · have hy := hall y (by simp)
        have hw := hall w (by simp)
        have z1 := z.1
        unfold Bw at h hy hw ⊢
        omega
      · exact hall u hu
end K31

set_option pp.maxSteps 900
/-! k31: the program's load with a count -/
namespace L1O
open PySem PySem.Spec PyProof.Rows L2 KA KD PH PM PA PB PC RM RN RS QE QF QG DV M3N GU K31
abbrev sRf : Stmt := topS 30
abbrev sWC : Stmt := topS 31
abbrev sLW : Stmt := topS 29
theorem scRf : FnScope ["cycles", "rest", "outside"] ["cycles", "rest"] (defScope sRf) := ⟨rfl, rfl, rfl, by decide +kernel, rfl, by decide +kernel, by decide +kernel⟩
theorem scWC : FnScope ["points", "place", "cycles", "before", "after", "added", "falling", "low", "high", "point"] ["points", "place", "cycles"] (defScope sWC) := ⟨rfl, rfl, rfl, by decide +kernel, rfl, by decide +kernel, by decide +kernel⟩
theorem scLW : FnScope ["cycles", "rest", "place"] ["cycles", "rest"] (defScope sLW) := ⟨rfl, rfl, rfl, by decide +kernel, rfl, by decide +kernel, by decide +kernel⟩
/-- the cycle is within the range of the points -/
def inP (ns : List Int) (c : Int × Int) : Bool := ns.any (fun x => decide (x ≤ c.1)) && ns.any (fun x => decide (c.2 ≤ x))
def outs (cs : List (Int × Int)) (ns : List Int) : List (Int × Int) := cs.filter fun c => !inP ns c
theorem outs_nil (cs : List (Int × Int)) : outs cs [] = cs := by
  unfold outs inP
  simp
theorem outs_take {cs : List (Int × Int)} {ns : List Int} {i : Nat} {r : Int × Int} (e : cs[i]? = some r) : outs (cs.take (i + 1)) ns = outs (cs.take i) ns ++ (if inP ns r = true then [] else [r]) := by
  unfold outs
  rw [List.take_add_one, e, Option.toList_some, List.filter_append, List.filter_cons]
  cases h : inP ns r <;> simp
theorem pairs_app {H : Hp} {p : Addr} {r : Int × Int} (h : H p = some (.tup [.int r.1, .int r.2])) : ∀ {xs : List V} {cs : List (Int × Int)}, PairsAt H xs cs → PairsAt H (xs ++ [.ref p]) (cs ++ [r])
  | [], [], _ => ⟨⟨p, rfl, h⟩, trivial⟩
  | x :: xs, c :: cs, ⟨h1, h2⟩ => ⟨h1, pairs_app h h2⟩
  | [], _ :: _, h => h.elim
  | _ :: _, [], h => h.elim
theorem up_take {ds : List (Int × Int)} {j : Nat} {r : Int × Int} (h : ds[j]? = some r) : up (ds.take (j + 1)) = up (ds.take j) ++ [r.2, r.1] := by
  rw [List.take_add_one, h, Option.toList_some, up_app]
  rfl
theorem dn_take {ds : List (Int × Int)} {j : Nat} {r : Int × Int} (h : ds[j]? = some r) : dn (ds.take (j + 1)) = dn (ds.take j) ++ [r.1, r.2] := by
  rw [List.take_add_one, h, Option.toList_some, dn_app]
  rfl
theorem up_len : ∀ ds : List (Int × Int), (up ds).length = 2 * ds.length
  | [] => rfl
  | _ :: ds => by
    show (up ds).length + 1 + 1 = 2 * (ds.length + 1)
    rw [up_len ds]; omega
theorem dn_len : ∀ ds : List (Int × Int), (dn ds).length = 2 * ds.length
  | [] => rfl
  | _ :: ds => by
    show (dn ds).length + 1 + 1 = 2 * (ds.length + 1)
    rw [dn_len ds]; omega
theorem lc_any {J : It} {n : Nat} {G : Hp → Prop} {Y : Nat → Hp → V → Hp → Prop} (w : Walk J n G Y) {B : V → Hp → (Hp → Prop) → Prop} {H0 : Hp} {Qd : Hp → Prop} (Pv : Nat → Hp → Prop) (p0 : Pv 0 H0) (pg : ∀ i H, i ≤ n → Pv i H → G H)
    (step : ∀ i x H H', i < n → Pv i H → Y i H x H' → B x H' (Pv (i + 1))) (fin : ∀ H, Pv n H → Qd H) :
    ∃ W : Nat → Nat → Hp → Prop, (∃ m, W 0 m H0) ∧ ∀ i m H, W i m H → (J.stop i H ∧ Qd H) ∨ (J.go i H ∧ ∃ Nx : Hp → Prop, (∀ H', Nx H' → ∃ m', m' < m ∧ W (i + 1) m' H') ∧ ∀ x H', J.yld i H x H' → B x H' Nx) := by
  refine ⟨fun i m H => i ≤ n ∧ m = n - i ∧ Pv i H, ⟨n, Nat.zero_le _, rfl, p0⟩, ?_⟩
  rintro i m H ⟨hi, rfl, hp⟩
  rcases Nat.lt_or_ge i n with h | h
  · refine .inr ⟨w.goes i H h (pg i H hi hp), Pv (i + 1), fun H' hn => ⟨n - (i + 1), by omega, by omega, rfl, hn⟩, fun x H' hy => step i x H H' h hp (w.yields i H x H' h (pg i H hi hp) hy)⟩
  · have e : i = n := by omega
    subst e
    exact .inl ⟨w.stops H (pg i H hi hp), fin H hp⟩
/-- counts stand -/
theorem lex_fst {a b c d : Int} (h : HT.lexLt [a, b] [c, d] = false) : c ≤ a := by
  by_cases z : a < c
  · simp [HT.lexLt, z] at h
    omega
  · omega
theorem PairsAt.mp {H H' : Hp} (e : ∀ p (a b : Int), H p = some (.tup [.int a, .int b]) → H' p = some (.tup [.int a, .int b])) : ∀ {xs : List V} {rs : List (Int × Int)}, PairsAt H xs rs → PairsAt H' xs rs
  | [], [], _ => trivial
  | x :: xs, r :: rs, ⟨⟨p, h1, h2⟩, h3⟩ => ⟨⟨p, h1, e p _ _ h2⟩, PairsAt.mp e h3⟩
  | [], _ :: _, h => h.elim
  | _ :: _, [], h => h.elim
theorem PairsAt.put {D : Addr} {H : Hp} {l l2 : List V} (e : H D = some (.lst l)) {xs : List V} {rs : List (Int × Int)} (h : PairsAt H xs rs) : PairsAt (upd H D (.lst l2)) xs rs :=
  PairsAt.mp (fun p a b e2 => by rw [upd_ne (fun z => by rw [z, e] at e2; cases e2)]; exact e2) h
theorem least {p : Nat → Prop} (n : Nat) (h : p n) : ∃ j, p j ∧ ∀ m, m < j → ¬ p m := by
  induction n using Nat.strongRecOn with
  | ind n ih =>
    by_cases e : ∃ m, m < n ∧ p m
    · obtain ⟨m, hm, pm⟩ := e
      exact ih m hm pm
    · exact ⟨n, h, fun m hm pm => e ⟨m, hm, pm⟩⟩
theorem sw_inv : ∀ {ns : List Int} {j : Nat} {r : Int × Int}, (sw ns)[j]? = some r → ∃ x b, ns[j]? = some x ∧ ns[j + 1]? = some b ∧ r = rg x b
  | [], _, _, h => by simp [sw] at h
  | [_], _, _, h => by simp [sw] at h
  | x :: y :: l, 0, r, h => by
    have h' : some (rg x y) = some r := h
    cases h'
    exact ⟨x, y, rfl, rfl, rfl⟩
  | x :: y :: l, j + 1, r, h => by
    have h' : (sw (y :: l))[j]? = some r := h
    obtain ⟨u, v, h1, h2, h3⟩ := sw_inv h'
    exact ⟨u, v, h1, h2, h3⟩
theorem sw_pre {a b : Int} {post : List Int} : ∀ pre : List Int, (sw (pre ++ a :: b :: post))[pre.length]? = some (rg a b)
  | [] => rfl
  | [x] => sw_pre (a := a) (b := b) (post := post) []
  | x :: y :: pre => sw_pre (a := a) (b := b) (post := post) (y :: pre)
theorem first_swing {ns : List Int} (z : ZZ ns) (n : NF ns) {mn mx : Int} (h1 : mn ∈ ns) (h2 : ∀ y, y ∈ ns → mn ≤ y) (h3 : mx ∈ ns) (h4 : ∀ y, y ∈ ns → y ≤ mx) (hlt : mn < mx) :
    ∃ (j : Nat) (x b : Int), ns[j]? = some x ∧ ns[j + 1]? = some b ∧ (sw ns)[j]? = some (mn, mx) ∧ rg x b = (mn, mx) ∧ ∀ m r, m < j → (sw ns)[m]? = some r → r ≠ (mn, mx) := by
  obtain ⟨i, hi⟩ : ∃ i, (sw ns)[i]? = some (mn, mx) := by
    match ns, z, n, h1, h2, h3, h4 with
    | [], _, _, h1, _, _, _ => cases h1
    | [x], _, _, h1, _, h3, _ =>
      rw [List.mem_singleton.mp h1, List.mem_singleton.mp h3] at hlt
      omega
    | x :: y :: l, z, n, h1, h2, h3, h4 =>
      obtain ⟨pre, a, b, post, e, hall⟩ := swing_all l x y z n
      refine ⟨pre.length, ?_⟩
      have b1 := hall mn h1
      have b2 := hall mx h3
      have ma : a ∈ x :: y :: l := by rw [e]; simp
      have mb : b ∈ x :: y :: l := by rw [e]; simp
      have c1 := h2 a ma
      have c2 := h2 b mb
      have c3 := h4 a ma
      have c4 := h4 b mb
      rw [e, sw_pre]
      unfold Bw at b1 b2
      by_cases hab : a < b
      · rw [rg_up hab]
        congr 1
        exact Prod.ext (by show a = mn; omega) (by show b = mx; omega)
      · rw [rg_down (show b < a by omega)]
        congr 1
        exact Prod.ext (by show b = mn; omega) (by show a = mx; omega)
  obtain ⟨j, hj, hm⟩ := least (p := fun i => (sw ns)[i]? = some (mn, mx)) i hi
  obtain ⟨x, b, e1, e2, e3⟩ := sw_inv hj
  exact ⟨j, x, b, e1, e2, hj, e3.symm, fun m r hmj hr hr2 => hm m hmj (by rw [hr, hr2])⟩
/-- the points have the cycles and the rest -/
def Made (cs : List (Int × Int)) (ns ms : List Int) : Prop := (∃ ds : List (Int × Int), ds.Perm cs ∧ Run ms ds ns) ∧ ZZ ms ∧ ms.length = ns.length + 2 * cs.length
theorem split_at {ns : List Int} {j : Nat} {x b : Int} (e1 : ns[j]? = some x) (e2 : ns[j + 1]? = some b) : ns = ns.take j ++ x :: b :: ns.drop (j + 2) ∧ ns.take (j + 1) = ns.take j ++ [x] ∧ ns.drop (j + 1) = b :: ns.drop (j + 2) := by
  have h1 : ns.take (j + 1) = ns.take j ++ [x] := by rw [List.take_add_one, e1]; rfl
  have h2 : ns.drop (j + 1) = b :: ns.drop (j + 2) := by
    have l : j + 1 < ns.length := (List.getElem?_eq_some_iff.mp e2).1
    rw [List.drop_eq_getElem_cons l]
    congr 1
    rw [List.getElem?_eq_getElem l] at e2
    exact Option.some.inj e2
  refine ⟨?_, h1, h2⟩
  have := List.take_append_drop (j + 1) ns
  rw [h1, h2, List.append_assoc] at this
  exact this.symm
theorem made_up {ns : List Int} {j : Nat} {x b : Int} (z : ZZ ns) (e1 : ns[j]? = some x) (e2 : ns[j + 1]? = some b) (h : x < b) {cs cs' : List (Int × Int)} (pm : cs'.Perm cs) (hb : ∀ c ∈ cs, x ≤ c.1 ∧ c.1 < c.2 ∧ c.2 ≤ b) (srt : cs'.Pairwise (fun c d => c.1 ≤ d.1)) :
    Made cs ns (ns.take (j + 1) ++ up cs' ++ ns.drop (j + 1)) := by
  obtain ⟨s1, s2, s3⟩ := split_at e1 e2
  obtain ⟨r, z2⟩ := up_run (ns.take j) h (s1 ▸ z) cs' (fun c hc => hb c (pm.mem_iff.mp hc)) srt
  have em : ns.take (j + 1) ++ up cs' ++ ns.drop (j + 1) = ns.take j ++ (x :: up cs') ++ b :: ns.drop (j + 2) := by rw [s2, s3]; simp
  refine ⟨⟨cs'.reverse, (List.reverse_perm _).trans pm, ?_⟩, ?_, ?_⟩
  · rw [em]; rw [← s1] at r; exact r
  · rw [em]; exact z2
  · rw [List.length_append, List.length_append, up_len, List.length_take, List.length_drop, pm.length_eq]
    have l : j + 1 < ns.length := (List.getElem?_eq_some_iff.mp e2).1
    omega
theorem made_dn {ns : List Int} {j : Nat} {x b : Int} (z : ZZ ns) (e1 : ns[j]? = some x) (e2 : ns[j + 1]? = some b) (h : b < x) {cs cs' : List (Int × Int)} (pm : cs'.Perm cs) (hb : ∀ c ∈ cs, b ≤ c.1 ∧ c.1 < c.2 ∧ c.2 ≤ x) (srt : cs'.Pairwise (fun c d => d.2 ≤ c.2)) :
    Made cs ns (ns.take (j + 1) ++ dn cs' ++ ns.drop (j + 1)) := by
  obtain ⟨s1, s2, s3⟩ := split_at e1 e2
  obtain ⟨r, z2⟩ := dn_run (ns.take j) h (s1 ▸ z) cs' (fun c hc => hb c (pm.mem_iff.mp hc)) srt
  have em : ns.take (j + 1) ++ dn cs' ++ ns.drop (j + 1) = ns.take j ++ (x :: dn cs') ++ b :: ns.drop (j + 2) := by rw [s2, s3]; simp
  refine ⟨⟨cs'.reverse, (List.reverse_perm _).trans pm, ?_⟩, ?_, ?_⟩
  · rw [em]; rw [← s1] at r; exact r
  · rw [em]; exact z2
  · rw [List.length_append, List.length_append, dn_len, List.length_take, List.length_drop, pm.length_eq]
    have l : j + 1 < ns.length := (List.getElem?_eq_some_iff.mp e2).1
    omega
theorem outs_all {cs : List (Int × Int)} {ns : List Int} (h : outs cs ns = []) : ∀ c ∈ cs, inP ns c = true := fun c hc => by
  have := List.filter_eq_nil_iff.mp h c hc
  simpa using this
theorem ev_pr (r t : Int × Int) : PyData.eqv (.tuple [.int r.1, .int r.2]) (.tuple (dInts [t.1, t.2])) = decide (r = t) := by
  have h := ev_ints [r.1, r.2] [t.1, t.2]
  have e : PyData.eqv (.tuple [.int r.1, .int r.2]) (.tuple (dInts [t.1, t.2])) = PyData.eqvAll (dInts [r.1, r.2]) (dInts [t.1, t.2]) := by
    simp only [PyData.eqv]
    rfl
  rw [e, h]
  obtain ⟨a, b⟩ := r
  obtain ⟨c, d⟩ := t
  simp
theorem dPairs_at {l : List (Int × Int)} {j : Nat} {z : PyData} (h : (dPairs l)[j]? = some z) : ∃ r, l[j]? = some r ∧ z = .tuple [.int r.1, .int r.2] := by
  unfold dPairs at h
  rw [List.getElem?_map] at h
  cases e : l[j]? with
  | none => rw [e] at h; cases h
  | some r => rw [e] at h; exact ⟨r, rfl, (Option.some.inj h).symm⟩
theorem dPairs_get {l : List (Int × Int)} {j : Nat} {r : Int × Int} (h : l[j]? = some r) : (dPairs l)[j]? = some (.tuple [.int r.1, .int r.2]) := by
  unfold dPairs
  rw [List.getElem?_map, h]
  rfl
/-- the heap behind C(v): the error let go, its dict left -/
theorem mk_heap {H : Hp} {a d : Addr} {o1 o2 o3 o4 : HO} (na : H a = none) (nd : d ≠ a) : upd (del (upd (upd (upd H a o1) d o2) a o3) a) d o4 = upd H d o4 := by
  funext b
  by_cases hb : b = d
  · subst hb; rw [upd_same, upd_same]
  · rw [upd_ne hb, upd_ne hb]
    by_cases ha : b = a
    · subst ha; rw [del_same, na]
    · rw [del_ne ha, upd_ne ha, upd_ne hb, upd_ne ha]
/-- what C(v) asks, C with an own __init__ that stores its one argument -/
theorem init_ends {C : Addr} {f : Str} {v : V} {H1 : Hp} {Q : Value → Option Addr → Hp → Prop} (h : ∀ d, H1 d = none → Q (.ref C) (some d) (upd H1 d (.xd [(f, v)]))) :
    ([v] : List V).length ≤ 1000 ∧ ∀ a, H1 a = none → XS.spInit C f (.ref a :: ([v] ++ [])) (upd H1 a (exo a C none))
      (fun v H2 => v = .non ∧ ∃ (d : Addr) (fs : List (Str × V)), H2 a = some (exo a C (some d)) ∧ H2 d = some (exd d fs) ∧ H1 d = none ∧ Q (.ref C) (some d) (upd (del H2 a) d (.xd fs))) (fun _ _ _ => False) := by
  refine ⟨by simp, fun a na => ⟨a, v, rfl, upd_same, fun dx n ne => ⟨rfl, dx, [(f, v)], upd_same, by rw [upd_ne ne, upd_same], ?_, ?_⟩⟩⟩
  · rw [upd_ne ne] at n; exact n
  · rw [mk_heap na ne]
    rw [upd_ne ne] at n
    exact h dx n
/-- what the text says of CannotTake: its class and its __init__ -/
structure ErrC (K : PySem.W.Frag) (C fI : Addr) (fld : Str) : Prop where
  oex : OexC K C
  iC : PySem.W.findIn K (.ref C) "__init__" = some (some (.ref fI))
  tI : PySem.W.typeIn K (.ref fI) = some (.type "function")
section
variable {P : Program} {w : World} {K : PySem.W.Frag} {mg : Str → Option Value} {base : Heap}
def spOuL : Sp := fun vs H Q _ => ∃ (a b : Addr) (xs : List V) (cs : List (Int × Int)) (ns : List Int), vs = [.ref a, .ref b] ∧ H a = some (.lst xs) ∧ PairsAt H xs cs ∧ H b = some (.tup (ns.map V.int)) ∧ cs.length ≤ 2000 ∧ ns.length ≤ 2000 ∧
  ∀ H' p ys, Same H H' → H' p = some (.lst ys) → PairsAt H' ys (outs cs ns) → Q (.ref p) H'
theorem ok_ouL {f : Addr} {fd : FuncData} {fCO : Addr} {dCO : FuncData} {k : Nat} (F : Fun K "cycles_outside" "cycles_outside" sCO2 f fd) (GCO : FnOk P w K mg base CX0 (k + 1) fCO dCO ["outer", "inner"] (spCont K)) (gCO : mg "contains" = some (.ref fCO)) (kCO : PySem.W.keepIn K (.ref fCO) = true) (bCO : Binds K dCO ["outer", "inner"] []) (mn : mg "min" = none) (mx : mg "max" = none) (mt : mg "list" = none) : FnOk P w K mg base CX0 (k + 2) f fd ["cycles", "rest"] spOuL := by
  refine F.ok scCO2 (fun vs H Q E h => ?_) (fun cdv A outer s H vs Q E hr h => ?_)
  · obtain ⟨a, b, xs, cs, ns, rfl, ha, hp, hb, hl1, hl2, hq⟩ := h
    rfl
  · obtain ⟨a, b, xs, cs, ns, rfl, ha, hp, hb, hl1, hl2, hq⟩ := h
    refine ⟨_, (pss_cons (ps_if (pt_not (pt_truth (pv 1) (by intro _; rfl))) (pss_one (ps_ret (pe_callTy call_list_of (by rfl) mt (by decide +kernel) (pa_cons (pv 0) pa_nil)))) pss_nil)
      (pss_cons (ps_set (i := 2) scCO2.nd rfl (.inr rfl) (pe_tup (pa_cons (pe_callB (GU.cr_minS rfl) (by rfl) mn (by decide +kernel) (pa_cons (pv 1) pa_nil)) (pa_cons (pe_callB (GU.cr_maxS rfl) (by rfl) mx (by decide +kernel) (pa_cons (pv 1) pa_nil)) pa_nil))))
      (pss_one (ps_ret (pe_lc (own := [("cycle", 3)]) (g := gName 3)   rfl scCO2.nd (pi_list (pv 0)) (blkOk_by (own := [("cycle", 3)]) (N := ["cycles", "rest", "whole", "cycle"]) (sc := defScope sCO2) (by decide +kernel)) (fun _ _ _ _ _ => (pg_name (i := 3) scCO2.nd rfl (Or.inl rfl) (Or.inr rfl))) (fun _ _ _ _ _ => pts_one (pt_not (pt_val (pe_call GCO hr (by rfl) gCO kCO bCO .nil pass0 (pa_cons (pv 2) (pa_cons (pv 3) pa_nil)))))) (fun _ _ _ _ _ => (pv 3))))))), ?_⟩
    cases ns with
    | nil =>
      refine ⟨.ref b, rfl, _, .inr (.inl ⟨_, SqT.of hb, rfl⟩), iteT ⟨.ref a, rfl, a, xs, rfl, .inl (SqL.of ha), fun l nl => hq _ l xs (same_new nl) upd_same ?_⟩⟩
      rw [outs_nil]
      exact hp.same (same_new nl)
    | cons n0 ns0 =>
      generalize hns : n0 :: ns0 = ns at *
      have npos : 0 < ns.length := by rw [← hns]; exact Nat.succ_pos _
      have ntru : (!(ns.map V.int).isEmpty) = true := by rw [← hns]; rfl
      refine ⟨.ref b, rfl, _, .inr (.inl ⟨_, SqT.of hb, rfl⟩), ?_⟩
      rw [ntru]
      refine iteF ⟨.ref b, rfl, b, ns, rfl, .inr (SqT.of hb), npos, fun mn h1 h2 => ⟨.ref b, rfl, b, ns, rfl, .inr (SqT.of hb), npos, fun mx h3 h4 => ⟨(show 2 ≤ sizeLine by decide), fun wp nw => ?_⟩⟩⟩
      have sw := same_new nw (o := .tup [.int mn, .int mx])
      have ew : (upd H wp (.tup [.int mn, .int mx])) wp = some (.tup [.int mn, .int mx]) := upd_same
      have ha1 := sw _ _ ha
      have hp1 := hp.same sw
      generalize upd H wp (.tup [.int mn, .int mx]) = H1 at sw ew ha1 hp1 ⊢
      refine ⟨.ref a, rfl, a, rfl, ⟨xs, SqL.of ha1⟩, fun D nD => ?_⟩
      refine lc_it (walk_list (xs := xs)) (fun i Hz => Same H1 Hz ∧ ∃ ys, Hz D = some (.lst ys) ∧ ys.length ≤ i ∧ PairsAt H1 ys (outs (cs.take i) ns)) ⟨same_new nD, [], upd_same, Nat.le_refl _, trivial⟩ (fun i Hz _ z => SqL.of (z.1 _ _ ha1)) ?_ ?_
      · rintro i x Hz H2 hi ⟨sz, ys, hD, hyl, hye⟩ ⟨rfl, hx⟩
        obtain ⟨r, p, hr1, rfl, hp2⟩ := pr_at hp1 hx
        refine ⟨rfl, .ref wp, rfl, .ref p, rfl, wp, p, mn, mx, r.1, r.2, rfl, SqT.of (sz _ _ ew), SqT.of (sz _ _ hp2), _, rfl, ?_⟩
        have hb2 := outs_take (ns := ns) hr1
        have hin : inP ns r = (decide (mn ≤ r.1) && decide (r.2 ≤ mx)) := by unfold inP; rw [any_min h1 h2, any_max h3 h4]
        rw [hin] at hb2
        cases hc : (decide (mn ≤ r.1) && decide (r.2 ≤ mx)) with
        | true =>
          rw [hc, if_pos rfl, List.append_nil] at hb2
          exact iteF ⟨sz, ys, hD, by omega, by rw [hb2]; exact hye⟩
        | false =>
          rw [hc, if_neg Bool.false_ne_true] at hb2
          have hlx : xs.length ≤ 2000 := by rw [hp.length]; exact hl1
          refine iteT ⟨.ref p, rfl, ys, hD, small3000 (by omega), fun b o e => ?_, ys ++ [.ref p], upd_same, by simp; omega, by rw [hb2]; exact pairs_app hp2 hye⟩
          rw [upd_ne (ne_of_none e nD)]
          exact sz b o e
      · rintro Hz ⟨sz, ys, hD, hyl, hye⟩
        rw [hp.length, List.take_length] at hye
        exact hq _ D ys (sw.trans sz) hD (hye.same sz)
/-- the first cycle that is outside is told, or nothing is done -/
def spRf (C : Addr) : Sp := fun vs H Q E => ∃ (a b : Addr) (xs : List V) (cs : List (Int × Int)) (ns : List Int), vs = [.ref a, .ref b] ∧ H a = some (.lst xs) ∧ PairsAt H xs cs ∧ H b = some (.tup (ns.map V.int)) ∧ cs.length ≤ 2000 ∧ ns.length ≤ 2000 ∧
  (∀ c r, outs cs ns = c :: r → ∀ H' dx q, Same H H' → H' q = some (.tup [.int c.1, .int c.2]) → H' dx = none → E (.ref C) (some dx) (upd H' dx (.xd [(("cycle" : Str), .ref q)]))) ∧ (outs cs ns = [] → ∀ H', Same H H' → Q .non H')
theorem ok_rf {f : Addr} {fd : FuncData} {fOU : Addr} {dOU : FuncData} {C fIN : Addr} {dIN : FuncData} {k : Nat} (F : Fun K "_refuse_outside" "_refuse_outside" sRf f fd) (TC : ErrC K C fIN "cycle") (gC : mg "NoLoad" = some (.ref C)) (GIN : FnOk P w K mg base CX0 1 fIN dIN ["self", "cycle"] (XS.spInit C "cycle")) (bIN : Binds K dIN ["self", "cycle"] []) (GOU : FnOk P w K mg base CX0 (k + 2) fOU dOU ["cycles", "rest"] spOuL) (gOU : mg "cycles_outside" = some (.ref fOU)) (kOU : PySem.W.keepIn K (.ref fOU) = true) (bOU : Binds K dOU ["cycles", "rest"] []) : FnOk P w K mg base (CX P w) (k + 3) f fd ["cycles", "rest"] (spRf C) := by
  refine F.okX scRf (fun vs H Q E h => ?_) (fun cdv A outer s H vs Q E hr h => ?_)
  · obtain ⟨a, b, xs, cs, ns, rfl, _⟩ := h
    rfl
  · obtain ⟨a, b, xs, cs, ns, rfl, ha, pa, hb, hl1, hl2, hE, hq⟩ := h
    refine ⟨_, (pss_cons (ps_set (i := 2) scRf.nd rfl (.inl rfl) (pe_call (GOU.mono (show k + 2 ≤ k + 2 by omega)) hr (by rfl) gOU kOU bOU .nil pass0 (pa_cons (pv 0) (pa_cons (pv 1) pa_nil))))
      (pss_one (ps_if (pt_truth (pv 2) (by intro _; rfl)) (pss_one (ps_raise rfl (takes_of rfl rfl rfl rfl) (pmk_oex TC.oex TC.iC TC.tI GIN (hr.mono (show 1 + 1 ≤ k + 2 by omega)) bIN .nil pass0 (by rfl) gC (pa_cons (pe_ix ix_list (pv 2) pe_int (fun _ _ => rfl)) pa_nil)))) pss_nil))), ?_⟩
    refine ⟨.ref a, rfl, .ref b, rfl, a, b, xs, cs, ns, rfl, ha, pa, hb, hl1, hl2, fun H1 p ys s1 hp py => ?_⟩
    cases ho : outs cs ns with
    | nil =>
      rw [ho] at py
      have e0 : ys = [] := List.length_eq_zero_iff.mp py.length
      subst e0
      refine ⟨.ref p, rfl, _, .inl ⟨_, SqL.of hp, rfl⟩, iteF (hq ho H1 s1)⟩
    | cons c r =>
      rw [ho] at py
      obtain ⟨y, ys', rfl⟩ : ∃ y ys', ys = y :: ys' := by
        cases ys with
        | nil => exact py.elim
        | cons y ys' => exact ⟨y, ys', rfl⟩
      obtain ⟨⟨q, rfl, hq2⟩, _⟩ := py
      refine ⟨.ref p, rfl, _, .inl ⟨_, SqL.of hp, rfl⟩, iteT ?_⟩
      refine ⟨.ref p, rfl, p, _, 0, .ref q, rfl, rfl, SqL.of hp, at_of (j := 0) rfl rfl, init_ends fun dx nd => hE c r ho H1 dx q s1 hq2 nd⟩
def spWC : Sp := fun vs H Q _ => ∃ (a c : Addr) (i : Nat) (xs : List V) (cs : List (Int × Int)) (ns : List Int) (x b : Int), vs = [.ref a, .int (i : Int), .ref c] ∧ H a = some (.tup (ns.map V.int)) ∧ H c = some (.lst xs) ∧ PairsAt H xs cs ∧ ns[i]? = some x ∧ ns[i + 1]? = some b ∧ cs.length ≤ 500 ∧ ns.length ≤ 500 ∧
  ∀ H' p cs', Same H H' → H p = none → cs'.Perm cs → (x < b → cs'.Pairwise (fun c d => c.1 ≤ d.1) → H' p = some (.tup ((ns.take (i + 1) ++ up cs' ++ ns.drop (i + 1)).map V.int)) → Q (.ref p) H') ∧ (¬ x < b → cs'.Pairwise (fun c d => d.2 ≤ c.2) → H' p = some (.tup ((ns.take (i + 1) ++ dn cs' ++ ns.drop (i + 1)).map V.int)) → Q (.ref p) H')
theorem ok_wc {f : Addr} {fd : FuncData} {k : Nat} (F : Fun K "_with_cycles" "_with_cycles" sWC f fd) (mso : mg "sorted" = none) : FnOk P w K mg base CX0 (k + 1) f fd ["points", "place", "cycles"] spWC := by
  refine F.ok scWC (fun vs H Q E h => ?_) (fun cdv A outer s H vs Q E hr h => ?_)
  · obtain ⟨a, c, i, xs, cs, ns, x, b, rfl, _⟩ := h
    rfl
  · obtain ⟨a, c, i, xs, cs, ns, x, b, rfl, ha, hc, pa, ex, eb, hl1, hl2, hq⟩ := h
    refine ⟨_, (pss_cons (ps_par (i := 3) (j := 4) (by rfl) scWC.nd rfl rfl (by decide) rfl rfl (pa_cons (pe_slice sl_tup (pv 0) po_none (po_some (pe_op op_add (pv 1) pe_int))) (pa_cons (pe_slice sl_tup (pv 0) (po_some (pe_op op_add (pv 1) pe_int)) po_none) pa_nil)) (by rfl))
      (pss_cons (ps_if (pt_cmpR op_lt (pe_ix ix_tup (pv 3) (pe_un un_neg pe_int) (fun _ _ => rfl)) (pe_ix ix_tup (pv 4) pe_int (fun _ _ => rfl)) (nomark _)) (pss_one (ps_setLc2 (i := 5) (own := [("low", 7), ("high", 8), ("point", 9)]) (vs1 := [9]) (g := (gTup K 2 (gCons (gName 7) (gCons (gName 8) gNil)))) (g1 := gName 9) (wi1 := iTup K (tTup (tCons (tVar 8) (tCons (tVar 7) tNil)))) (te := tVar 9) rfl scWC.nd rfl rfl (sw_true rfl rfl rfl (by decide +kernel))
          (pi_list (pe_callB cr_sortedPO (by rfl) mso (by decide +kernel) (pa_cons (pv 2) pa_nil)))
          (blkOk_by (own := [("low", 7), ("high", 8), ("point", 9)]) (N := ["points", "place", "cycles", "before", "after", "added", "falling", "low", "high", "point"]) (sc := defScope sWC) (by decide +kernel)) (by decide)
          (fun _ _ _ _ _ => (pg_tup rfl (pgs_cons (pg_name (i := 7) scWC.nd rfl (Or.inl rfl) (Or.inr rfl)) (pgs_cons (pg_name (i := 8) scWC.nd rfl (Or.inl rfl) (Or.inr rfl)) pgs_nil)))) (fun _ _ _ _ _ => pts_nil)
          (fun _ _ _ _ _ => pi_tup (pe_tup (pa_cons (pv 8) (pa_cons (pv 7) pa_nil))))
          (fun _ _ _ _ _ => pg_name (i := 9) scWC.nd rfl (Or.inl rfl) (Or.inr rfl)) (fun _ _ _ _ _ => pts_nil) (fun _ _ _ _ _ => pv 9))) (pss_cons (ps_set (i := 6) scWC.nd rfl (.inl rfl) (pe_callBK GS2.cr_sortedT2R (by rfl) mso (by decide +kernel) (pa_cons (pe_lc (own := [("low", 7), ("high", 8)]) (g := gTup K 2 (gCons (gName 7) (gCons (gName 8) gNil))) (tt := tYes)  rfl scWC.nd (pi_list (pv 2)) (blkOk_by (own := [("low", 7), ("high", 8)]) (N := ["points", "place", "cycles", "before", "after", "added", "falling", "low", "high", "point"]) (sc := defScope sWC) (by decide +kernel)) (fun _ _ _ _ _ => (pg_tup rfl (pgs_cons (pg_name (i := 7) scWC.nd rfl (Or.inl rfl) (Or.inr rfl)) (pgs_cons (pg_name (i := 8) scWC.nd rfl (Or.inl rfl) (Or.inr rfl)) pgs_nil)))) (fun _ _ _ _ _ => pts_nil) (fun _ _ _ _ _ => (pe_tup (pa_cons (pv 8) (pa_cons (pv 7) pa_nil))))) pa_nil) (pk_cons pe_bl pk_nil)))
      (pss_one (ps_setLc2 (i := 5) (own := [("high", 8), ("low", 7), ("point", 9)]) (vs1 := [9]) (g := (gTup K 2 (gCons (gName 8) (gCons (gName 7) gNil)))) (g1 := gName 9) (wi1 := iTup K (tTup (tCons (tVar 7) (tCons (tVar 8) tNil)))) (te := tVar 9) rfl scWC.nd rfl rfl (sw_true rfl rfl rfl (by decide +kernel))
          (pi_list (pv 6))
          (blkOk_by (own := [("high", 8), ("low", 7), ("point", 9)]) (N := ["points", "place", "cycles", "before", "after", "added", "falling", "low", "high", "point"]) (sc := defScope sWC) (by decide +kernel)) (by decide)
          (fun _ _ _ _ _ => (pg_tup rfl (pgs_cons (pg_name (i := 8) scWC.nd rfl (Or.inl rfl) (Or.inr rfl)) (pgs_cons (pg_name (i := 7) scWC.nd rfl (Or.inl rfl) (Or.inr rfl)) pgs_nil)))) (fun _ _ _ _ _ => pts_nil)
          (fun _ _ _ _ _ => pi_tup (pe_tup (pa_cons (pv 7) (pa_cons (pv 8) pa_nil))))
          (fun _ _ _ _ _ => pg_name (i := 9) scWC.nd rfl (Or.inl rfl) (Or.inr rfl)) (fun _ _ _ _ _ => pts_nil) (fun _ _ _ _ _ => pv 9)))))
      (pss_one (ps_ret (pe_tup (StX.pa_star (pv 3) (StX.pa_star (pv 5) (StX.pa_star (pv 4) pa_nil)))))))), ?_⟩
    have hm : (ns.map V.int).length = ns.length := List.length_map _
    have li : i + 1 < ns.length := (List.getElem?_eq_some_iff.mp eb).1
    have l2s : 2 ≤ sizeLine := by decide
    refine ⟨.ref a, rfl, .int (i : Int), rfl, _, 1, rfl, rfl, _, rfl, a, _, rfl, SqT.of ha, ?_, fun c1 n1 => ?_⟩
    · rintro ⟨_, z⟩
      rw [show (some ((i : Int) + 1)) = some (((i + 1 : Nat)) : Int) from rfl, HT.sIx_nat, hm] at z
      omega
    have s1 := same_new n1 (o := .tup (cutV (ns.map V.int) none (some ((i : Int) + 1))))
    have hc1 : (upd H c1 (.tup (cutV (ns.map V.int) none (some ((i : Int) + 1))))) c1 = some (.tup ((ns.take (i + 1)).map V.int)) := by rw [upd_same, show (some ((i : Int) + 1)) = some (((i + 1 : Nat)) : Int) from rfl, cut_to, List.map_take]
    generalize upd H c1 (.tup (cutV (ns.map V.int) none (some ((i : Int) + 1)))) = H1 at s1 hc1 ⊢
    refine ⟨.ref a, rfl, .int (i : Int), rfl, _, 1, rfl, rfl, _, rfl, a, _, rfl, SqT.of (s1 _ _ ha), ?_, fun c2 n2 => ⟨.ref c1, .ref c2, rfl, ?_⟩⟩
    · rintro ⟨z, _⟩
      rw [show (some ((i : Int) + 1)) = some (((i + 1 : Nat)) : Int) from rfl, HT.sIx_nat, hm] at z
      omega
    have s2 := same_new n2 (o := .tup (cutV (ns.map V.int) (some ((i : Int) + 1)) none))
    have hc2 : (upd H1 c2 (.tup (cutV (ns.map V.int) (some ((i : Int) + 1)) none))) c2 = some (.tup ((ns.drop (i + 1)).map V.int)) := by rw [upd_same, show (some ((i : Int) + 1)) = some (((i + 1 : Nat)) : Int) from rfl, cut_from, List.map_drop]
    generalize upd H1 c2 (.tup (cutV (ns.map V.int) (some ((i : Int) + 1)) none)) = H2 at s2 hc2 ⊢
    have s02 := s1.trans s2
    have hc1 := s2 _ _ hc1
    have hcc := s02 _ _ hc
    have pa2 := pa.same s02
    have a1 : atI ((ns.take (i + 1)).map V.int) (-1) = some (.int x) := by
      rw [List.take_add_one, ex, Option.toList_some, List.map_append]
      exact atI_last _ _
    have a2 : atI ((ns.drop (i + 1)).map V.int) 0 = some (.int b) := at_of (j := 0) rfl (at_int (by rw [List.getElem?_drop]; exact eb))
    refine ⟨.ref c1, rfl, 1, rfl, c1, _, _, .int x, rfl, rfl, SqT.of hc1, a1, .ref c2, rfl, c2, _, 0, .int b, rfl, rfl, SqT.of hc2, a2, x, b, rfl, rfl, _, rfl, ?_⟩
    by_cases hxb : x < b
    · rw [decide_eq_true hxb]
      refine iteT ?_
      refine ⟨.ref c, rfl, c, xs, QH.kOf H2, rfl, SqL.of hcc, (QH.pairs_key pa2).2, fun ys p h1 h2 np => ?_⟩
      obtain ⟨ds, pd, perm, srt⟩ := QH.sorted_out pa2 h1 h2
      have s3 := same_new np (o := .lst ys)
      have h3 := upd_same (H := H2) (a := p) (o := .lst ys)
      have pd3 := pd.same s3
      generalize upd H2 p (.lst ys) = H3 at s3 h3 pd3 ⊢
      have ld : ds.length ≤ 500 := by rw [perm.length_eq]; exact hl1
      refine ⟨p, rfl, ⟨_, SqL.of h3⟩, fun D nD => ?_⟩
      refine lc_any (walk_list (K := K) (a := p) (xs := ys)) (fun j Hx => Same H3 Hx ∧ Hx D = some (.lst ((up (ds.take j)).map V.int))) ⟨same_new nD, upd_same⟩ (fun j Hx _ g => SqL.of (g.1 _ _ h3)) ?_ ?_
      · rintro j y H9 Hx hj ⟨sm, eD⟩ ⟨rfl, hy⟩
        obtain ⟨r, t, hr3, rfl, ht⟩ := pr_at pd3 hy
        refine ⟨t, _, rfl, SqT.of (sm _ _ ht), rfl, .int r.1, [.int r.2], rfl, .int r.2, [], rfl, rfl, rfl, ?_⟩
        refine iteT (B := True) ?_
        refine ⟨.int r.2, rfl, .int r.1, rfl, l2s, fun q nq => ⟨q, rfl, ⟨_, SqT.of upd_same⟩, ?_⟩⟩
        have lj : j < ds.length := (List.getElem?_eq_some_iff.mp hr3).1
        have sq := sm.trans (same_new nq (o := .tup [.int r.2, .int r.1]))
        have hqq := upd_same (H := Hx) (a := q) (o := .tup [.int r.2, .int r.1])
        have eDq := (same_new nq (o := .tup [.int r.2, .int r.1])) _ _ eD
        generalize upd Hx q (.tup [.int r.2, .int r.1]) = Hq at sq hqq eDq ⊢
        refine lc_any (walk_tup (K := K) (a := q) (xs := [V.int r.2, V.int r.1])) (fun m Hy => Same H3 Hy ∧ Hy q = some (.tup [.int r.2, .int r.1]) ∧ Hy D = some (.lst ((up (ds.take j) ++ [r.2, r.1].take m).map V.int))) ⟨sq, hqq, by rw [List.take_zero, List.append_nil]; exact eDq⟩ (fun m Hy _ g => SqT.of g.2.1) ?_ ?_
        · rintro m y H9 Hy hm2 ⟨sm2, e2, eD2⟩ ⟨rfl, hy2⟩
          obtain ⟨z, hz, rfl⟩ := int_at (ns := [r.2, r.1]) hy2
          have nqD : q ≠ D := ne_of e2 eD2 (by intro z; cases z)
          refine ⟨rfl, ?_⟩
          refine iteT (B := True) ?_
          refine ⟨.int z, rfl, _, eD2, ?_, same_again nD sm2, by rw [upd_ne nqD]; exact e2, ?_⟩
          · rw [List.length_map, List.length_append, List.length_take, up_len, List.length_take]
            exact small3000 (by simp only [List.length_cons, List.length_nil] at hm2 ⊢; omega)
          · rw [upd_same, List.take_add_one, hz]
            simp
        · rintro Hy ⟨sm2, e2, eD2⟩
          refine ⟨sm2, ?_⟩
          rw [up_take hr3]
          exact eD2
      rintro Hx ⟨sm, eD⟩
      rw [pd3.length, List.take_length] at eD
      have s3x := s02.trans (s3.trans sm)
      have sx := s3.trans sm
      refine ⟨.ref c1, rfl, c1, _, rfl, .inl (SqT.of (sx _ _ hc1)), .ref D, rfl, D, _, rfl, .inr (SqL.of eD), .ref c2, rfl, c2, _, rfl, .inl (SqT.of (sx _ _ hc2)), ?_, fun q nq => ?_⟩
      · simp only [List.length_append, List.length_map, List.length_take, List.length_drop, up_len, List.length_nil]
        exact Nat.le_of_lt (small3000 (by omega))
      have sf := same_new nq (o := .tup ((ns.take (i + 1)).map V.int ++ ((up ds).map V.int ++ ((ns.drop (i + 1)).map V.int ++ []))))
      refine (hq _ q ds (s3x.trans sf) (s3x.free nq) perm).1 hxb (srt.imp fun {c d} h => ?_) ?_
      · rcases h with h | h <;> omega
      · rw [upd_same, List.map_append, List.map_append, List.append_nil, List.append_assoc]
    · rw [decide_eq_false hxb]
      refine iteF ?_
      refine ⟨.ref c, rfl, c, rfl, ⟨xs, SqL.of hcc⟩, fun D0 nD0 => ?_⟩
      have la := pa2.length
      refine lc_it (walk_list (xs := xs)) (fun i Hz => Same H2 Hz ∧ ∃ acc : List V, Hz D0 = some (.lst acc) ∧ PairsAt Hz acc ((cs.take i).map fun r => (r.2, r.1))) ⟨same_new nD0, [], upd_same, trivial⟩ (fun i Hz _ z => SqL.of (z.1 _ _ hcc)) ?_ ?_
      · rintro i v Hz Hy hi ⟨sz, acc, eD, pd⟩ ⟨rfl, hx⟩
        obtain ⟨r, p, er, rfl, e2⟩ := pr_at pa2 hx
        have la2 := pd.length
        rw [List.length_map, List.length_take] at la2
        refine ⟨p, _, rfl, SqT.of (sz _ _ e2), rfl, .int r.1, [.int r.2], rfl, .int r.2, [], rfl, rfl, rfl, iteT (B := True) ?_⟩
        refine ⟨.int r.2, rfl, .int r.1, rfl, l2s, fun q nq => ?_⟩
        have sq := same_new nq (o := .tup [.int r.2, .int r.1])
        have eD2 := sq _ _ eD
        refine ⟨acc, eD2, Nat.lt_of_le_of_lt (show acc.length ≤ 3000 by omega) (by decide), same_again nD0 (sz.trans sq), acc ++ [.ref q], upd_same, ?_⟩
        rw [List.take_add_one, er, Option.toList_some, List.map_append]
        exact PairsAt.put eD2 ((pd.same sq).append ⟨⟨q, rfl, upd_same⟩, trivial⟩)
      rintro Hz ⟨sz, acc, eD0, pd⟩
      rw [la, List.take_length] at pd
      refine ⟨_, rfl, rfl, acc, fun v => [(QH.kOf Hz v).1, (QH.kOf Hz v).2], SqL.of eD0, fun y hy => ?_, fun ys0 p hsrt hperm np => ?_⟩
      · obtain ⟨t, e1, e2⟩ := (QH.pairs_key pd).2 y hy
        exact ⟨t, e1, e2, rfl⟩
      obtain ⟨ys, hys⟩ : ∃ ys, ys = ys0.reverse := ⟨_, rfl⟩
      have pys : ys.Perm acc := by rw [hys]; exact (List.reverse_perm _).trans hperm
      have pds : PairsAt Hz ys (ys.map (QH.kOf Hz)) := QH.pairs_of fun y hy => (QH.pairs_key pd).2 y (pys.mem_iff.mp hy)
      have srt : ys.Pairwise fun u v => (QH.kOf Hz v).1 ≤ (QH.kOf Hz u).1 := by
        rw [hys]
        exact (List.pairwise_reverse.mpr (hsrt.imp fun h => lex_fst h))
      rw [if_pos rfl, ← hys]
      have s3 := sz.trans (same_new np (o := .lst ys))
      have h3 := upd_same (H := Hz) (a := p) (o := .lst ys)
      have pd3 := pds.same (same_new np (o := .lst ys))
      generalize upd Hz p (.lst ys) = H3 at s3 h3 pd3 ⊢
      generalize hds : (ys.map (QH.kOf Hz)).map (fun r : Int × Int => (r.2, r.1)) = ds at *
      have perm : ds.Perm cs := by
        rw [← hds]
        have e := (QH.pairs_key pd).1
        have p2 := (pys.map (QH.kOf Hz)).map (fun r : Int × Int => (r.2, r.1))
        rw [← e] at p2
        have t : ((cs.map fun r : Int × Int => (r.2, r.1)).map fun r : Int × Int => (r.2, r.1)) = cs := by
          rw [List.map_map, show ((fun r : Int × Int => (r.2, r.1)) ∘ fun r : Int × Int => (r.2, r.1)) = id from rfl, List.map_id]
        rw [t] at p2
        exact p2
      have ld : ds.length ≤ 500 := by rw [perm.length_eq]; exact hl1
      have ldy : ys.length = ds.length := by rw [← hds, List.length_map, List.length_map]
      refine ⟨.ref p, rfl, p, rfl, ⟨_, SqL.of h3⟩, fun D nD => ?_⟩
      refine lc_any (walk_list (K := K) (a := p) (xs := ys)) (fun j Hx => Same H3 Hx ∧ Hx D = some (.lst ((dn (ds.take j)).map V.int))) ⟨same_new nD, upd_same⟩ (fun j Hx _ g => SqL.of (g.1 _ _ h3)) ?_ ?_
      · rintro j y H9 Hx hj ⟨sm, eD⟩ ⟨rfl, hy⟩
        obtain ⟨r, t, hr0, rfl, ht⟩ := pr_at pd3 hy
        have hr3 : ds[j]? = some (r.2, r.1) := by rw [← hds, List.getElem?_map, hr0]; rfl
        refine ⟨t, _, rfl, SqT.of (sm _ _ ht), rfl, .int r.1, [.int r.2], rfl, .int r.2, [], rfl, rfl, rfl, ?_⟩
        refine iteT (B := True) ?_
        refine ⟨.int r.2, rfl, .int r.1, rfl, l2s, fun q nq => ⟨q, rfl, ⟨_, SqT.of upd_same⟩, ?_⟩⟩
        have lj : j < ds.length := (List.getElem?_eq_some_iff.mp hr3).1
        have sq := sm.trans (same_new nq (o := .tup [.int r.2, .int r.1]))
        have hqq := upd_same (H := Hx) (a := q) (o := .tup [.int r.2, .int r.1])
        have eDq := (same_new nq (o := .tup [.int r.2, .int r.1])) _ _ eD
        generalize upd Hx q (.tup [.int r.2, .int r.1]) = Hq at sq hqq eDq ⊢
        refine lc_any (walk_tup (K := K) (a := q) (xs := [V.int r.2, V.int r.1])) (fun m Hy => Same H3 Hy ∧ Hy q = some (.tup [.int r.2, .int r.1]) ∧ Hy D = some (.lst ((dn (ds.take j) ++ [r.2, r.1].take m).map V.int))) ⟨sq, hqq, by rw [List.take_zero, List.append_nil]; exact eDq⟩ (fun m Hy _ g => SqT.of g.2.1) ?_ ?_
        · rintro m y H9 Hy hm2 ⟨sm2, e2, eD2⟩ ⟨rfl, hy2⟩
          obtain ⟨z, hz, rfl⟩ := int_at (ns := [r.2, r.1]) hy2
          have nqD : q ≠ D := ne_of e2 eD2 (by intro z; cases z)
          refine ⟨rfl, ?_⟩
          refine iteT (B := True) ?_
          refine ⟨.int z, rfl, _, eD2, ?_, same_again nD sm2, by rw [upd_ne nqD]; exact e2, ?_⟩
          · rw [List.length_map, List.length_append, List.length_take, dn_len, List.length_take]
            exact small3000 (by simp only [List.length_cons, List.length_nil] at hm2 ⊢; omega)
          · rw [upd_same, List.take_add_one, hz]
            simp
        · rintro Hy ⟨sm2, e2, eD2⟩
          refine ⟨sm2, ?_⟩
          rw [dn_take hr3]
          exact eD2
      rintro Hx ⟨sm, eD⟩
      rw [ldy, List.take_length] at eD
      have s3x := s02.trans (s3.trans sm)
      have sx := s3.trans sm
      refine ⟨.ref c1, rfl, c1, _, rfl, .inl (SqT.of (sx _ _ hc1)), .ref D, rfl, D, _, rfl, .inr (SqL.of eD), .ref c2, rfl, c2, _, rfl, .inl (SqT.of (sx _ _ hc2)), ?_, fun q nq => ?_⟩
      · simp only [List.length_append, List.length_map, List.length_take, List.length_drop, dn_len, List.length_nil]
        exact Nat.le_of_lt (small3000 (by omega))
      have sf := same_new nq (o := .tup ((ns.take (i + 1)).map V.int ++ ((dn ds).map V.int ++ ((ns.drop (i + 1)).map V.int ++ []))))
      refine (hq _ q ds (s3x.trans sf) (s3x.free nq) perm).2 hxb ?_ ?_
      · rw [← hds, List.map_map]
        exact List.pairwise_map.mpr srt
      · rw [upd_same, List.map_append, List.map_append, List.append_nil, List.append_assoc]
/-- a load with the count, or the first cycle that is outside is told -/
def spLW (C : Addr) : Sp := fun vs H Q E => ∃ (a b : Addr) (xs : List V) (cs : List (Int × Int)) (ns : List Int), vs = [.ref a, .ref b] ∧ H a = some (.lst xs) ∧ PairsAt H xs cs ∧ H b = some (.tup (ns.map V.int)) ∧ ZZ ns ∧ NF ns ∧ cs.length ≤ 500 ∧ ns.length ≤ 500 ∧ (∀ c ∈ cs, c.1 < c.2) ∧
  (∀ c r, outs cs ns = c :: r → ∀ H' dx q, Same H H' → H' q = some (.tup [.int c.1, .int c.2]) → H' dx = none → E (.ref C) (some dx) (upd H' dx (.xd [(("cycle" : Str), .ref q)]))) ∧
  (outs cs ns = [] → ∀ H' p ms, Same H H' → H' p = some (.tup (ms.map V.int)) → Made cs ns ms → Q (.ref p) H')
theorem ok_lw {f : Addr} {fd : FuncData} {fRF : Addr} {dRF : FuncData} {fSW : Addr} {dSW : FuncData} {fWC : Addr} {dWC : FuncData} {C : Addr} {k : Nat} (F : Fun K "load_with" "load_with" sLW f fd) (GRF : FnOk P w K mg base (CX P w) (k + 3) fRF dRF ["cycles", "rest"] (spRf C)) (gRF : mg "_refuse_outside" = some (.ref fRF)) (kRF : PySem.W.keepIn K (.ref fRF) = true) (bRF : Binds K dRF ["cycles", "rest"] []) (GSW : FnOk P w K mg base CX0 (k + 3) fSW dSW ["load"] (spSw K)) (gSW : mg "swings" = some (.ref fSW)) (kSW : PySem.W.keepIn K (.ref fSW) = true) (bSW : Binds K dSW ["load"] []) (GWC : FnOk P w K mg base CX0 (k + 1) fWC dWC ["points", "place", "cycles"] spWC) (gWC : mg "_with_cycles" = some (.ref fWC)) (kWC : PySem.W.keepIn K (.ref fWC) = true) (bWC : Binds K dWC ["points", "place", "cycles"] []) (mn : mg "min" = none) (mx : mg "max" = none) (mt : mg "tuple" = none) : FnOk P w K mg base (CX P w) (k + 4) f fd ["cycles", "rest"] (spLW C) := by
  refine F.okX scLW (fun vs H Q E h => ?_) (fun cdv A outer s H vs Q E hr h => ?_)
  · obtain ⟨a, b, xs, cs, ns, rfl, _⟩ := h
    rfl
  · obtain ⟨a, b, xs, cs, ns, rfl, ha, pa, hb, zz, nf, hl1, hl2, hlt, hE, hq⟩ := h
    refine ⟨_, (pss_cons (ps_expr (pe_call GRF hr (by rfl) gRF kRF bRF .nil (passes_call (takes_of rfl rfl rfl rfl) (fun _ _ _ _ z => z)) (pa_cons (pv 0) (pa_cons (pv 1) pa_nil))))
      (pss_cons (ps_if (pt_not (pt_truth (pv 0) (by intro _; rfl))) (pss_one (ps_ret (pe_callTy call_tupleT (by rfl) mt (by decide +kernel) (pa_cons (pv 1) pa_nil)))) pss_nil)
      (pss_cons (ps_set (i := 2) scLW.nd rfl (.inl rfl) (pe_bm PySem.F.plainAttrs_list PySem.F.slot_list_index PySem.F.type_list_index (mt_indexD (by change (A.deeper (envOfC "load_with" (defScope sLW) s.heap.objs.size f cdv)).units + 65 < cLine; have := hr.un; omega)) (pe_call (GSW.mono (show k + 3 ≤ k + 3 by omega)) hr (by rfl) gSW kSW bSW .nil pass0 (pa_cons (pv 1) pa_nil)) (pa_cons (pe_tup (pa_cons (pe_callB (GU.cr_minS rfl) (by rfl) mn (by decide +kernel) (pa_cons (pv 1) pa_nil)) (pa_cons (pe_callB (GU.cr_maxS rfl) (by rfl) mx (by decide +kernel) (pa_cons (pv 1) pa_nil)) pa_nil))) pa_nil)))
      (pss_one (ps_ret (pe_call (GWC.mono (show k + 1 ≤ k + 3 by omega)) hr (by rfl) gWC kWC bWC .nil pass0 (pa_cons (pv 1) (pa_cons (pv 2) (pa_cons (pv 0) pa_nil))))))))), ?_⟩
    have l2s : 2 ≤ sizeLine := by decide
    refine ⟨.ref a, rfl, .ref b, rfl, a, b, xs, cs, ns, rfl, ha, pa, hb, by omega, by omega, fun c r ho H' dx q s1 h1 h2 => hE c r ho H' dx q s1 h1 h2, fun ho H1 s1 => ?_⟩
    have ha1 := s1 _ _ ha
    have hb1 := s1 _ _ hb
    have pa1 := pa.same s1
    cases hcs : cs with
    | nil =>
      subst hcs
      have e0 : xs = [] := List.length_eq_zero_iff.mp pa.length
      subst e0
      exact ⟨.ref a, rfl, _, .inl ⟨_, SqL.of ha1, rfl⟩, iteT ⟨.ref b, rfl, b, _, rfl, SqT.of hb1, hq ho H1 b ns s1 hb1 ⟨⟨[], .refl _, .nil _⟩, zz, rfl⟩⟩⟩
    | cons c0 cs0 =>
      have hin := outs_all ho
      have hc0 : c0 ∈ cs := by rw [hcs]; simp
      obtain ⟨x0, xs0, exs⟩ : ∃ y ys, xs = y :: ys := by
        cases xs with
        | nil => rw [hcs] at pa; exact pa.elim
        | cons y ys => exact ⟨y, ys, rfl⟩
      have ntru : (!xs.isEmpty) = true := by rw [exs]; rfl
      have npos : 0 < ns.length := by
        have := hin c0 hc0
        cases ns with
        | nil => simp [inP] at this
        | cons _ _ => exact Nat.succ_pos _
      refine ⟨.ref a, rfl, _, .inl ⟨_, SqL.of ha1, rfl⟩, ?_⟩
      rw [ntru]
      refine iteF ?_
      refine ⟨.ref b, rfl, b, ns, rfl, .inr (SqT.of hb1), by omega, fun H2 p ys s2 np hp py => ⟨.inl ⟨rfl, _, SqL.of hp⟩, .ref b, rfl, b, ns, rfl, .inr (SqT.of (s2 _ _ hb1)), npos, fun mn m1 m2 => ⟨.ref b, rfl, b, ns, rfl, .inr (SqT.of (s2 _ _ hb1)), npos, fun mx m3 m4 => ⟨l2s, fun t nt => ?_⟩⟩⟩⟩
      rw [zz_tp zz] at py
      have st := same_new nt (o := .tup [.int mn, .int mx])
      have ht := upd_same (H := H2) (a := t) (o := .tup [.int mn, .int mx])
      generalize upd H2 t (.tup [.int mn, .int mx]) = H3 at st ht ⊢
      have s13 := s2.trans st
      have hb3 := s13 _ _ hb1
      have ha3 := s13 _ _ ha1
      have pa3 := pa1.same s13
      have bnd : ∀ c ∈ cs, mn ≤ c.1 ∧ c.1 < c.2 ∧ c.2 ≤ mx := fun c hc => by
        have h := hin c hc
        unfold inP at h
        rw [any_min m1 m2, any_max m3 m4] at h
        simp only [Bool.and_eq_true, decide_eq_true_eq] at h
        exact ⟨h.1, hlt c hc, h.2⟩
      have hmm : mn < mx := by have := bnd c0 hc0; omega
      obtain ⟨j, x, bb, e1, e2, e3, e4, e5⟩ := first_swing zz nf m1 m2 m3 m4 hmm
      refine ⟨p, .ref t, .tuple (dInts [mn, mx]), dPairs (sw ns), j, _, rfl, rfl, .lst (SqL.of (st _ _ hp)) (dp_pairs (py.same st)), .tup (SqT.of ht) (dp_ints [mn, mx]), shaped_prs _, shaped_tup [mn, mx], dPairs_get e3, ?_, fun m z' hm hz => ?_, ?_⟩
      · rw [ev_pr (mn, mx) (mn, mx)]
        exact decide_eq_true rfl
      · obtain ⟨r, hr1, rfl⟩ := dPairs_at hz
        rw [ev_pr r (mn, mx)]
        exact decide_eq_false (e5 m r hm hr1)
      refine ⟨.ref b, rfl, .int (j : Int), rfl, .ref a, rfl, b, a, j, xs, cs, ns, x, bb, rfl, hb3, ha3, pa3, e1, e2, hl1, hl2, fun H' q cs' s5 nq pm => ⟨fun hxb srt hqq => ?_, fun hxb srt hqq => ?_⟩⟩
      · rw [rg_up hxb] at e4
        have e6 := Prod.ext_iff.mp e4
        refine hq ho H' q _ ((s1.trans s13).trans s5) hqq (made_up zz e1 e2 hxb pm (fun c hc => ?_) srt)
        have := bnd c hc
        have h1 : x = mn := e6.1
        have h2 : bb = mx := e6.2
        omega
      · have ne : x ≠ bb := fun z => by
          rw [z] at e4
          unfold rg at e4
          have e6 := Prod.ext_iff.mp e4
          simp at e6
          omega
        have hbx : bb < x := by omega
        rw [rg_down hbx] at e4
        have e6 := Prod.ext_iff.mp e4
        refine hq ho H' q _ ((s1.trans s13).trans s5) hqq (made_dn zz e1 e2 hbx pm (fun c hc => ?_) srt)
        have := bnd c hc
        have h1 : bb = mn := e6.1
        have h2 : x = mx := e6.2
        omega
end
end L1O

set_option pp.maxSteps 900
/-! k31: the law's own: a load made, or the cycle in the error -/
namespace L1R
open PySem PySem.Spec PyProof.Rows L2 KA KD PH PM PA PB PC RM RN RS QE QF QG DV M3N GU K31 L1O
abbrev sMd : Stmt := topS 41
theorem scMd : FnScope ["cycles", "rest", "caught", "found", "error"] ["cycles", "rest"] (defScope sMd) := ⟨rfl, rfl, rfl, by decide +kernel, rfl, by decide +kernel, by decide +kernel⟩
section
variable {P : Program} {w : World} {K : PySem.W.Frag} {mg : Str → Option Value} {base : Heap}
def spMd : Sp := fun vs H Q _ => ∃ (a b : Addr) (xs : List V) (cs : List (Int × Int)) (ns : List Int), vs = [.ref a, .ref b] ∧ H a = some (.lst xs) ∧ PairsAt H xs cs ∧ H b = some (.tup (ns.map V.int)) ∧ ZZ ns ∧ NF ns ∧ cs.length ≤ 500 ∧ ns.length ≤ 500 ∧ (∀ c ∈ cs, c.1 < c.2) ∧
  (∀ c r, outs cs ns = c :: r → ∀ H' p q, Same H H' → H p = none → H' p = some (.tup [.non, .ref q]) → H' q = some (.tup [.int c.1, .int c.2]) → Q (.ref p) H') ∧
  (outs cs ns = [] → ∀ H' p q ms, Same H H' → H p = none → H' p = some (.tup [.ref q, .non]) → H' q = some (.tup (ms.map V.int)) → Made cs ns ms → Q (.ref p) H')
theorem ok_md {f : Addr} {fd : FuncData} {fLW : Addr} {dLW : FuncData} {C : Addr} {k : Nat} (F : Fun K "_law_made" "_law_made" sMd f fd) (gC : mg "NoLoad" = some (.ref C)) (xf : XS.XfA K "cycle" C) (exm : PySem.W.exmOne K (.ref C) (.ref C) = some true) (GLW : FnOk P w K mg base (CX P w) (k + 5) fLW dLW ["cycles", "rest"] (spLW C)) (gLW : mg "load_with" = some (.ref fLW)) (kLW : PySem.W.keepIn K (.ref fLW) = true) (bLW : Binds K dLW ["cycles", "rest"] []) : FnOk P w K mg base CX0 (k + 6) f fd ["cycles", "rest"] spMd := by
  refine F.ok scMd (fun vs H Q E h => ?_) (fun cdv A outer s H vs Q E hr h => ?_)
  · obtain ⟨a, b, xs, cs, ns, rfl, _⟩ := h
    rfl
  · obtain ⟨a, b, xs, cs, ns, rfl, ha, pa, hb, zz, nf, hl1, hl2, hlt, hE, hq⟩ := h
    refine ⟨_, (pss_cons (ps_asg (pe_tup (pa_cons pe_non (pa_cons pe_non pa_nil))) (pg_tup rfl (pgs_cons (pg_name (i := 2) scMd.nd rfl (.inl rfl)) (pgs_cons (pg_name (i := 3) scMd.nd rfl (.inl rfl)) pgs_nil))))
      (pss_cons (ps_try_as (i := 4) (tb := fun W => tAsg (tCallS (spLW C) (WE W) (tCons (tVar 0) (tCons (tVar 1) tNil))) (gName 3)) (ts := fun a cls d => tAsg (tXf a cls d C "cycle" (tVar 4)) (gName 2)) (Wout := fun _ _ _ _ => False) rfl rfl scMd.nd rfl rfl ⟨rfl, by decide, Or.inl gC⟩ takes0
        (fun W pn xe tk _ => pss_one (ps_set (i := 3) scMd.nd rfl (Or.inl rfl) (by exact (pe_callS GLW hr rfl gLW kLW bLW (fun σ => passAt tk σ) (by exact (pa_cons (pv 0) (pa_cons (pv 1) pa_nil)))))))
        (fun a oe cls d pn hz hf => pss_one (ps_set (i := 2) scMd.nd rfl (Or.inl rfl) (by exact (pe_xf xf.1 xf.2 hz hf (pv 4))))))
      (pss_one (ps_ret (pe_tup (pa_cons (pv 3) (pa_cons (pv 2) pa_nil))))))), ?_⟩
    have l2s : 2 ≤ sizeLine := by decide
    refine ⟨l2s, fun t nt => ⟨t, _, rfl, SqT.of upd_same, rfl, .non, [.non], rfl, .non, [], rfl, rfl, ?_⟩⟩
    have s0 := same_new (o := .tup [V.non, V.non]) nt
    generalize upd H t (.tup [V.non, V.non]) = H0 at s0 ⊢
    refine ⟨.ref a, rfl, .ref b, rfl, a, b, xs, cs, ns, rfl, s0 _ _ ha, pa.same s0, s0 _ _ hb, zz, nf, hl1, hl2, hlt, fun c r ho H1 dx q s1 hq1 ndx => ⟨true, exm, fun _ ae nae => ?_, fun q => nomatch q⟩, fun ho H1 p ms s1 hp md => ?_⟩
    · have s2 := same_new (o := .xd [(("cycle" : Str), .ref q)]) ndx
      have hdx := upd_same (H := H1) (a := dx) (o := .xd [(("cycle" : Str), .ref q)])
      refine ⟨.ref ae, rfl, rfl, rfl, dx, _, .ref q, rfl, hdx, rfl, ?_⟩
      have s02 := (s0.trans s1).trans s2
      refine ⟨.non, rfl, .ref q, rfl, l2s, fun u nu => ?_⟩
      have s3 := same_new (o := .tup [.non, .ref q]) nu
      exact hE c r ho _ u q (s02.trans s3) (s02.free nu) upd_same (s3 _ _ (s2 _ _ hq1))
    · have s01 := s0.trans s1
      refine ⟨.ref p, rfl, .non, rfl, l2s, fun u nu => ?_⟩
      have s3 := same_new (o := .tup [.ref p, .non]) nu
      exact hq ho _ u p ms (s01.trans s3) (s01.free nu) upd_same (s3 _ _ hp) md
end
end L1R

set_option pp.maxSteps 900
/-! k31: the law's own: things in another order -/
namespace L1X
open PySem PySem.Spec PyProof.Rows L2 KA KD PH PM PA PB PC RM RN RS QE QF QG DV M3N GU K31 L1O
abbrev sMx : Stmt := topS 42
theorem scMx : FnScope ["feed", "things", "found", "k"] ["feed", "things"] (defScope sMx) := ⟨rfl, rfl, rfl, by decide +kernel, rfl, by decide +kernel, by decide +kernel⟩
theorem sIx {k n : Nat} (h : k < n) : seqIndex? ((k : Nat) : Int) n = some k := by
  have := seqIndex_of (k := ((k : Nat) : Int)) (n := n) (by omega) (by omega)
  rw [this]; rfl
theorem move_perm {xs : List V} {i : Nat} {y : V} (h : xs[i]? = some y) : (xs.eraseIdx i ++ [y]).Perm xs := by
  have l : i < xs.length := (List.getElem?_eq_some_iff.mp h).1
  rw [List.eraseIdx_eq_take_drop_succ]
  have e : xs = xs.take i ++ y :: xs.drop (i + 1) := by
    have h2 : xs.drop i = y :: xs.drop (i + 1) := by
      rw [List.drop_eq_getElem_cons l]
      congr 1
      rw [List.getElem?_eq_getElem l] at h
      exact Option.some.inj h
    rw [← h2, List.take_append_drop]
  have p : (xs.take i ++ xs.drop (i + 1) ++ [y]).Perm (xs.take i ++ y :: xs.drop (i + 1)) := by
    rw [List.append_assoc]
    exact List.Perm.append_left _ (List.perm_append_singleton _ _)
  rw [← e] at p
  exact p
section
variable {P : Program} {w : World} {K : PySem.W.Frag} {mg : Str → Option Value} {base : Heap}
def spMx : Sp := fun vs H Q _ => ∃ (f a : Addr) (xs : List V) (cs : List (Int × Int)), vs = [.ref f, .ref a] ∧ FeedAt H f ∧ H a = some (.lst xs) ∧ PairsAt H xs cs ∧ cs.length ≤ 500 ∧
  ∀ H' p ys ds, Ch f H H' → FeedAt H' f → H p = none → H' p = some (.lst ys) → PairsAt H' ys ds → ds.Perm cs → Q (.ref p) H'
theorem ok_mx {f : Addr} {fd : FuncData} {fTA : Addr} {dTA : FuncData} {k : Nat} (F : Fun K "_law_mixed" "_law_mixed" sMx f fd) (GTA : FnOk P w K mg base CX0 (k + 1) fTA dTA ["feed", "size"] spTake) (gTA : mg "_law_take" = some (.ref fTA)) (kTA : PySem.W.keepIn K (.ref fTA) = true) (bTA : Binds K dTA ["feed", "size"] []) (mlen : mg "len" = none) (mr : mg "range" = none) (ml : mg "list" = none) : FnOk P w K mg base CX0 (k + 2) f fd ["feed", "things"] spMx := by
  refine F.ok scMx (fun vs H Q E h => ?_) (fun cdv A outer s H vs Q E hr h => ?_)
  · obtain ⟨f, a, xs, cs, rfl, _⟩ := h
    rfl
  · obtain ⟨f, a, xs, cs, rfl, hf, ha, pa, hl, hq⟩ := h
    refine ⟨_, (pss_cons (ps_set (i := 2) scMx.nd rfl (.inl rfl) (pe_callTy call_list_of (by rfl) ml (by decide +kernel) (pa_cons (pv 1) pa_nil)))
      (pss_cons (ps_for PassesOwn.never rfl (pi_range1 rfl mr (pa_cons (pe_callB call_len_seq (by rfl) mlen PySem.boot_len (pa_cons (pv 2) pa_nil)) pa_nil)) (pg_name (i := 3) scMx.nd rfl (.inl rfl))
      (pss_one (ps_expr (pe_bm PySem.F.plainAttrs_list PySem.F.slot_list_append PySem.F.type_list_append mt_append (pv 2) (pa_cons (pe_bm PySem.F.plainAttrs_list PySem.F.slot_list_pop PySem.F.type_list_pop mt_popAt (pv 2) (pa_cons (pe_call (GTA.mono (show k + 1 ≤ k + 1 by omega)) hr (by rfl) gTA kTA bTA .nil pass0 (pa_cons (pv 0) (pa_cons (pe_callB call_len_seq (by rfl) mlen PySem.boot_len (pa_cons (pv 2) pa_nil)) pa_nil))) pa_nil)) pa_nil)))))
      (pss_one (ps_ret (pv 2))))), ?_⟩
    have lx := pa.length
    refine ⟨.ref a, rfl, a, xs, rfl, .inl (SqL.of ha), fun D nD => ?_⟩
    have sD := same_new nD (o := .lst xs)
    have hD := upd_same (H := H) (a := D) (o := .lst xs)
    have fD := hf.same sD
    have nDf := hf.ne nD
    generalize upd H D (.lst xs) = H1 at sD hD fD ⊢
    have c1 := Ch.of_same (f := f) sD
    refine ⟨.ref D, rfl, D, xs, rfl, .inl (SqL.of hD), _, rfl, by omega, by omega, for_range (lo := 0) (n := ((xs.length : Int)).toNat) (fun j σ Hx => (∀ b o, b ≠ f → b ≠ D → H1 b = some o → Hx b = some o) ∧ FeedAt Hx f ∧ (∃ zs : List V, zs.Perm xs ∧ Hx D = some (.lst zs)) ∧ ∃ r : Option V, σ = [some (.ref f), some (.ref a), some (.ref D), r]) ⟨fun b o _ _ e => e, fD, ⟨xs, .refl _, hD⟩, none, rfl⟩ ?_ ?_⟩
    · rintro j σ Hx hj ⟨keep, fx, ⟨zs, pz, hz⟩, r, rfl⟩
      have lz := pz.length_eq
      have hj2 : 0 < zs.length := by omega
      refine ⟨.ref D, rfl, .inl ⟨rfl, _, SqL.of hz⟩, .ref D, rfl, .inl ⟨rfl, _, SqL.of hz⟩, .ref f, rfl, .ref D, rfl, D, zs, rfl, .inl (SqL.of hz), f, _, rfl, by omega, by omega, fx, fun H2 i c2 f2 i0 i1 => ?_⟩
      obtain ⟨n, rfl⟩ : ∃ n : Nat, i = (n : Int) := ⟨i.toNat, by omega⟩
      have hn : n < zs.length := by omega
      have hz2 := c2 _ _ nDf hz
      have e1 : zs[n]? = some zs[n] := List.getElem?_eq_getElem hn
      refine ⟨D, zs, (n : Int), n, zs[n], rfl, rfl, hz2, by omega, by omega, sIx hn, e1, D, _, _, rfl, rfl, upd_same, ?_, ?_⟩
      · have := List.length_eraseIdx_le zs n
        exact small3000 (by omega)
      rw [upd_upd]
      refine ⟨fun b o n1 n2 e => by rw [upd_ne n2]; exact c2 b o n1 (keep b o n1 n2 e), f2.upd nDf, ⟨_, (move_perm e1).trans pz, upd_same⟩, _, rfl⟩
    · rintro σ Hx ⟨keep, fx, ⟨zs, pz, hz⟩, r, rfl⟩
      have ch : Ch f H Hx := fun b o n e => keep b o n (fun z => by rw [z, nD] at e; cases e) (sD b o e)
      have pax : PairsAt Hx xs cs := PairsAt.mp (fun p a b e => ch _ _ (fun z => by
        obtain ⟨d0, st, _, _, _, e2⟩ := hf
        rw [z, e2] at e
        cases e) e) pa
      obtain ⟨ek, hk⟩ := QH.pairs_key pax
      refine ⟨.ref D, rfl, hq Hx D zs (zs.map (QH.kOf Hx)) ch fx nD hz (QH.pairs_of fun y hy => hk y (pz.mem_iff.mp hy)) ?_⟩
      rw [ek]
      exact pz.map _
end
end L1X

/-! cycles lie in the range of the rest -/
namespace K31
open PM RM
theorem rg_lt {a b : Int} (h : a ≠ b) : (rg a b).1 < (rg a b).2 := by
  rcases Int.lt_or_lt_of_ne h with h | h
  · rw [rg_up h]; exact h
  · rw [rg_down h]; exact h
theorem step_in {p q : List Int} {c : Int × Int} (h : Step p c q) : ZZ p → c.1 < c.2 ∧ (∃ x ∈ q, x ≤ c.1) ∧ (∃ x ∈ q, c.2 ≤ x) ∧ ∀ x ∈ p, (∃ y ∈ q, y ≤ x) ∧ ∃ y ∈ q, x ≤ y := by
  induction h with
  | @here a b c d post t =>
    intro z
    have za := z.tail
    have hne := zz_cons za
    refine ⟨rg_lt hne, ?_⟩
    have ti := (taken_iff z.four).mp t
    have ma : a ∈ a :: d :: post := List.mem_cons_self
    have md : d ∈ a :: d :: post := List.mem_cons_of_mem _ List.mem_cons_self
    rcases ti with ti | ti
    · rw [rg_down ti.2.1]
      refine ⟨⟨a, ma, ti.2.2.2.1⟩, ⟨d, md, ti.2.2.2.2⟩, fun x hx => ?_⟩
      rcases List.mem_cons.mp hx with rfl | hx
      · exact ⟨⟨_, ma, Int.le_refl _⟩, ⟨_, ma, Int.le_refl _⟩⟩
      rcases List.mem_cons.mp hx with rfl | hx
      · exact ⟨⟨a, ma, by omega⟩, ⟨d, md, by omega⟩⟩
      rcases List.mem_cons.mp hx with rfl | hx
      · exact ⟨⟨a, ma, by omega⟩, ⟨d, md, by omega⟩⟩
      · have mx : x ∈ a :: d :: post := List.mem_cons_of_mem _ hx
        exact ⟨⟨_, mx, Int.le_refl _⟩, ⟨_, mx, Int.le_refl _⟩⟩
    · rw [rg_up ti.2.1]
      refine ⟨⟨d, md, by dsimp only; omega⟩, ⟨a, ma, by dsimp only; omega⟩, fun x hx => ?_⟩
      rcases List.mem_cons.mp hx with rfl | hx
      · exact ⟨⟨_, ma, Int.le_refl _⟩, ⟨_, ma, Int.le_refl _⟩⟩
      rcases List.mem_cons.mp hx with rfl | hx
      · exact ⟨⟨d, md, by omega⟩, ⟨a, ma, by omega⟩⟩
      rcases List.mem_cons.mp hx with rfl | hx
      · exact ⟨⟨d, md, by omega⟩, ⟨a, ma, by omega⟩⟩
      · have mx : x ∈ a :: d :: post := List.mem_cons_of_mem _ hx
        exact ⟨⟨_, mx, Int.le_refl _⟩, ⟨_, mx, Int.le_refl _⟩⟩
  | @there x p q cy h ih =>
    intro z
    obtain ⟨h0, ⟨u, hu, h1⟩, ⟨v, hv, h2⟩, h3⟩ := ih z.tail
    refine ⟨h0, ⟨u, List.mem_cons_of_mem _ hu, h1⟩, ⟨v, List.mem_cons_of_mem _ hv, h2⟩, fun y hy => ?_⟩
    rcases List.mem_cons.mp hy with rfl | hy
    · exact ⟨⟨_, List.mem_cons_self, Int.le_refl _⟩, ⟨_, List.mem_cons_self, Int.le_refl _⟩⟩
    · obtain ⟨⟨u, hu, h1⟩, ⟨v, hv, h2⟩⟩ := h3 y hy
      exact ⟨⟨u, List.mem_cons_of_mem _ hu, h1⟩, ⟨v, List.mem_cons_of_mem _ hv, h2⟩⟩
theorem run_in {p q : List Int} {cs : List (Int × Int)} (h : Run p cs q) : ZZ p → (∀ c ∈ cs, c.1 < c.2 ∧ (∃ x ∈ q, x ≤ c.1) ∧ ∃ x ∈ q, c.2 ≤ x) ∧ ∀ x ∈ p, (∃ y ∈ q, y ≤ x) ∧ ∃ y ∈ q, x ≤ y := by
  induction h with
  | nil p => exact fun _ => ⟨fun _ hc => (List.not_mem_nil hc).elim, fun x hx => ⟨⟨x, hx, Int.le_refl _⟩, ⟨x, hx, Int.le_refl _⟩⟩⟩
  | @cons p q r c cs s _ ih =>
    intro z
    obtain ⟨h0, ⟨u, hu, h1⟩, ⟨v, hv, h2⟩, h3⟩ := step_in s z
    obtain ⟨i1, i2⟩ := ih (ZZ.step s z)
    refine ⟨fun d hd => ?_, fun x hx => ?_⟩
    · rcases List.mem_cons.mp hd with rfl | hd
      · obtain ⟨⟨a, ha, a1⟩, _⟩ := i2 u hu
        obtain ⟨_, ⟨b, hb, b1⟩⟩ := i2 v hv
        exact ⟨h0, ⟨a, ha, by omega⟩, ⟨b, hb, by omega⟩⟩
      · exact i1 d hd
    · obtain ⟨⟨u, hu, h1⟩, ⟨v, hv, h2⟩⟩ := h3 x hx
      obtain ⟨⟨a, ha, a1⟩, _⟩ := i2 u hu
      obtain ⟨_, ⟨b, hb, b1⟩⟩ := i2 v hv
      exact ⟨⟨a, ha, by omega⟩, ⟨b, hb, by omega⟩⟩
/-- among two points and more that go up and down the least and the greatest differ -/
theorem zz_two {x y : Int} {l : List Int} (z : ZZ (x :: y :: l)) {mn mx : Int} (h2 : ∀ u ∈ x :: y :: l, mn ≤ u) (h4 : ∀ u ∈ x :: y :: l, u ≤ mx) : mn < mx := by
  have := zz_cons z
  have a := h2 x List.mem_cons_self
  have b := h2 y (List.mem_cons_of_mem _ List.mem_cons_self)
  have c := h4 x List.mem_cons_self
  have d := h4 y (List.mem_cons_of_mem _ List.mem_cons_self)
  omega
end K31

set_option pp.maxSteps 900
/-! k31's law -/
namespace L1L
open PySem PySem.Spec PyProof.Rows L2 KA KD PH PM PA PB PC RM RN RC RE RS QE QF QG QH DV M3N GU K31 L1O L1R L1X
abbrev sEC : Stmt := topS 3
abbrev sEI : Stmt := inClass sEC 0
abbrev sLaw : Stmt := topS 43
theorem scLaw : FnScope ["script", "index", "feed", "some", "turn", "cycles", "rest", "low", "high", "start", "before", "found", "caught", "counted", "wide", "more", "seen", "due", "one"] ["script"] (defScope L1L.sLaw) := ⟨rfl, rfl, rfl, by decide +kernel, rfl, by decide +kernel, by decide +kernel⟩
structure Txt (P : Program) (K : PySem.W.Frag) (mg : Str → Option Value) (fNU fRD fRG fCO fRO fTP fIL fBT fSW fMT fPB fCN fAL fOU fIS fIC fLW fRF fWC fFE fTA fPI fTN fRN fHS fMY fKT fMD fMX C fIN pO fOF p1 fPC p2 fPR_ CE fEI : Addr) (dNU dRD dRG dCO dRO dTP dIL dBT dSW dMT dPB dCN dAL dOU dIS dIC dLW dRF dWC dFE dTA dPI dTN dRN dHS dMY dKT dMD dMX dIN dOF dPC dPR_ dEI : FuncData) : Prop where
  FNU : Fun K "is_number" "is_number" M3N.sNu fNU dNU
  gNU : mg "is_number" = some (.ref fNU)
  kNU : PySem.W.keepIn K (.ref fNU) = true
  bNU : Binds K dNU ["value"] []
  FRD : Fun K "is_reading" "is_reading" M3N.sRd fRD dRD
  gRD : mg "is_reading" = some (.ref fRD)
  kRD : PySem.W.keepIn K (.ref fRD) = true
  bRD : Binds K dRD ["value"] []
  FRG : Fun K "is_range" "is_range" M3N.sRg fRG dRG
  gRG : mg "is_range" = some (.ref fRG)
  kRG : PySem.W.keepIn K (.ref fRG) = true
  bRG : Binds K dRG ["value"] []
  FCO : Fun K "contains" "contains" sCont fCO dCO
  gCO : mg "contains" = some (.ref fCO)
  kCO : PySem.W.keepIn K (.ref fCO) = true
  bCO : Binds K dCO ["outer", "inner"] []
  FRO : Fun K "range_of" "range_of" PA.sRng fRO dRO
  gRO : mg "range_of" = some (.ref fRO)
  kRO : PySem.W.keepIn K (.ref fRO) = true
  bRO : Binds K dRO ["one", "other"] []
  FTP : Fun K "turning_points" "turning_points" sTP fTP dTP
  gTP : mg "turning_points" = some (.ref fTP)
  kTP : PySem.W.keepIn K (.ref fTP) = true
  bTP : Binds K dTP ["load"] []
  FIL : Fun K "is_left_out" "is_left_out" sLO fIL dIL
  gIL : mg "is_left_out" = some (.ref fIL)
  kIL : PySem.W.keepIn K (.ref fIL) = true
  bIL : Binds K dIL ["points", "reading"] []
  FBT : Fun K "_lies_between" "_lies_between" sBtw fBT dBT
  gBT : mg "_lies_between" = some (.ref fBT)
  kBT : PySem.W.keepIn K (.ref fBT) = true
  bBT : Binds K dBT ["reading", "before", "after"] []
  FSW : Fun K "swings" "swings" sSw fSW dSW
  gSW : mg "swings" = some (.ref fSW)
  kSW : PySem.W.keepIn K (.ref fSW) = true
  bSW : Binds K dSW ["load"] []
  FMT : Fun K "_may_be_taken" "_may_be_taken" sMT fMT dMT
  gMT : mg "_may_be_taken" = some (.ref fMT)
  kMT : PySem.W.keepIn K (.ref fMT) = true
  bMT : Binds K dMT ["points", "place"] []
  FPB : Fun K "put_behind" "put_behind" sPB fPB dPB
  gPB : mg "put_behind" = some (.ref fPB)
  kPB : PySem.W.keepIn K (.ref fPB) = true
  bPB : Binds K dPB ["rest", "reading"] []
  FCN : Fun K "_counted" "_counted" sCo fCN dCN
  gCN : mg "_counted" = some (.ref fCN)
  kCN : PySem.W.keepIn K (.ref fCN) = true
  bCN : Binds K dCN ["load"] []
  FAL : Fun K "are_left" "are_left" sAl fAL dAL
  gAL : mg "are_left" = some (.ref fAL)
  kAL : PySem.W.keepIn K (.ref fAL) = true
  bAL : Binds K dAL ["points"] []
  FOU : Fun K "cycles_outside" "cycles_outside" sCO2 fOU dOU
  gOU : mg "cycles_outside" = some (.ref fOU)
  kOU : PySem.W.keepIn K (.ref fOU) = true
  bOU : Binds K dOU ["cycles", "rest"] []
  FIS : Fun K "is_rest" "is_rest" sIR2 fIS dIS
  gIS : mg "is_rest" = some (.ref fIS)
  kIS : PySem.W.keepIn K (.ref fIS) = true
  bIS : Binds K dIS ["value"] []
  FIC : Fun K "is_count" "is_count" sIC fIC dIC
  gIC : mg "is_count" = some (.ref fIC)
  kIC : PySem.W.keepIn K (.ref fIC) = true
  bIC : Binds K dIC ["cycles", "rest"] []
  FLW : Fun K "load_with" "load_with" sLW fLW dLW
  gLW : mg "load_with" = some (.ref fLW)
  kLW : PySem.W.keepIn K (.ref fLW) = true
  bLW : Binds K dLW ["cycles", "rest"] []
  FRF : Fun K "_refuse_outside" "_refuse_outside" sRf fRF dRF
  gRF : mg "_refuse_outside" = some (.ref fRF)
  kRF : PySem.W.keepIn K (.ref fRF) = true
  bRF : Binds K dRF ["cycles", "rest"] []
  FWC : Fun K "_with_cycles" "_with_cycles" sWC fWC dWC
  gWC : mg "_with_cycles" = some (.ref fWC)
  kWC : PySem.W.keepIn K (.ref fWC) = true
  bWC : Binds K dWC ["points", "place", "cycles"] []
  FFE : Fun K "_law_feed" "_law_feed" sFeed fFE dFE
  gFE : mg "_law_feed" = some (.ref fFE)
  kFE : PySem.W.keepIn K (.ref fFE) = true
  bFE : Binds K dFE ["script", "index"] []
  FTA : Fun K "_law_take" "_law_take" sTake fTA dTA
  gTA : mg "_law_take" = some (.ref fTA)
  kTA : PySem.W.keepIn K (.ref fTA) = true
  bTA : Binds K dTA ["feed", "size"] []
  FPI : Fun K "_law_pick" "_law_pick" sPick fPI dPI
  gPI : mg "_law_pick" = some (.ref fPI)
  kPI : PySem.W.keepIn K (.ref fPI) = true
  bPI : Binds K dPI ["feed", "options"] []
  FTN : Fun K "_law_turns" "_law_turns" M3W.sTn fTN dTN
  gTN : mg "_law_turns" = some (.ref fTN)
  kTN : PySem.W.keepIn K (.ref fTN) = true
  bTN : Binds K dTN ["load"] []
  FRN : Fun K "_law_range" "_law_range" M3W.sRn fRN dRN
  gRN : mg "_law_range" = some (.ref fRN)
  kRN : PySem.W.keepIn K (.ref fRN) = true
  bRN : Binds K dRN ["first", "second"] []
  FHS : Fun K "_law_has" "_law_has" M3W.sHs fHS dHS
  gHS : mg "_law_has" = some (.ref fHS)
  kHS : PySem.W.keepIn K (.ref fHS) = true
  bHS : Binds K dHS ["outer", "inner"] []
  FMY : Fun K "_law_may_take" "_law_may_take" M3W.sMy fMY dMY
  gMY : mg "_law_may_take" = some (.ref fMY)
  kMY : PySem.W.keepIn K (.ref fMY) = true
  bMY : Binds K dMY ["points", "k"] []
  FKT : Fun K "_law_count" "_law_count" M3W.sCt fKT dKT
  gKT : mg "_law_count" = some (.ref fKT)
  kKT : PySem.W.keepIn K (.ref fKT) = true
  bKT : Binds K dKT ["load"] []
  FMD : Fun K "_law_made" "_law_made" L1R.sMd fMD dMD
  gMD : mg "_law_made" = some (.ref fMD)
  kMD : PySem.W.keepIn K (.ref fMD) = true
  bMD : Binds K dMD ["cycles", "rest"] []
  FMX : Fun K "_law_mixed" "_law_mixed" L1X.sMx fMX dMX
  gMX : mg "_law_mixed" = some (.ref fMX)
  kMX : PySem.W.keepIn K (.ref fMX) = true
  bMX : Binds K dMX ["feed", "things"] []
  gC : mg "Count" = some (.ref C)
  cn : Cnt K C
  mkc : Mk K C fIN
  FIN : Fun K "__init__" "Count.__init__" sInit fIN dIN
  bIN : Binds K dIN ["self", "cycles", "rest"] []
  rd : ClX.CRead K C (.type "type")
  cm : ClX.CMet K C (.type "type") "of" pO fOF
  FOF : Fun K "of" "Count.of" sOf fOF dOF
  bOF : Binds K dOF ["cls", "load"] []
  prC : PropOf K C "cycles" p1 fPC
  FPC : Fun K "cycles" "Count.cycles" sPC fPC dPC
  bPC : Binds K dPC ["self"] []
  prR : PropOf K C "rest" p2 fPR_
  FPR_ : Fun K "rest" "Count.rest" sPR fPR_ dPR_
  bPR_ : Binds K dPR_ ["self"] []
  len : mg "len" = none
  zip : mg "zip" = none
  max : mg "max" = none
  min : mg "min" = none
  abs : mg "abs" = none
  range : mg "range" = none
  sorted : mg "sorted" = none
  tuple : mg "tuple" = none
  list : mg "list" = none
  isinstance : mg "isinstance" = none
  repr : mg "repr" = none
  int : mg "int" = none
  bool : mg "bool" = none
  enumerate : mg "enumerate" = none
  all : mg "all" = none
  gLIM : ∃ u, mg "LIMIT" = some u ∧ RelV (.int 1000000000) u
  gE : mg "NoLoad" = some (.ref CE)
  eC : ErrC K CE fEI "cycle"
  FEI : XS.FunS K P "__init__" "NoLoad.__init__" sEI CE fEI dEI
  bEI : Binds K dEI ["self", "cycle"] []
  sK : XS.SupK K P mg
  sC : XS.SupC K CE
  xf : XS.XfA K "cycle" CE
  exm : PySem.W.exmOne K (.ref CE) (.ref CE) = some true
structure It2 (d : PyData) : Prop where
  sh : d.showable = true
  le : d.leavesShort 25 = true
  de : d.depth ≤ 2
  we : d.weight ≤ 1000
  lay : d.canLay0 = true
structure Tz (d : PyData) : Prop where
  di : d.hasDict = false ∨ d = .dict []
  sh : d.showable = true
  le : d.leavesShort 25 = true
  de : d.depth ≤ 6
  we : d.weight ≤ 200000
def itB2 (d : PyData) : Bool := d.showable && d.leavesShort 25 && decide (d.depth ≤ 2) && decide (d.weight ≤ 1000) && d.canLay0
theorem it2_of {d : PyData} (h : itB2 d = true) : It2 d := by
  simp only [itB2, Bool.and_eq_true, decide_eq_true_eq] at h
  exact ⟨h.1.1.1.1, h.1.1.1.2, h.1.1.2, h.1.2, h.2⟩
theorem it2_list {ds : List PyData} (h : ds.all itB2 = true) : ∀ d ∈ ds, It2 d := fun d hd => it2_of (List.all_eq_true.mp h d hd)
theorem it2_int {i : Int} (h : i.natAbs < 2 ^ 39) : It2 (.int i) := by
  have x := it_int h
  have y : decide ((PyData.shown (.int i)).length ≤ 13) = true := x.le
  have y2 := of_decide_eq_true y
  exact ⟨x.sh, by show decide ((PyData.shown (.int i)).length ≤ 25) = true; exact decide_eq_true (by omega), by show PyData.depth (.int i) ≤ 2; simp only [PyData.depth]; omega, x.we, rfl⟩
theorem it2_all : ∀ {ds : List PyData}, (∀ d ∈ ds, It2 d) → PyData.showableAll ds = true ∧ PyData.leavesShortAll 25 ds = true ∧ PyData.depthAll ds ≤ 2 ∧ PyData.weightAll ds ≤ 1001 * ds.length ∧ PyData.canLayAll0 ds = true
  | [], _ => ⟨rfl, rfl, Nat.zero_le _, Nat.zero_le _, rfl⟩
  | d :: ds, h => by
    obtain ⟨a1, a2, a3, a4, a5⟩ := it2_all fun x hx => h x (List.mem_cons_of_mem _ hx)
    obtain ⟨b1, b2, b3, b4, b5⟩ := h d List.mem_cons_self
    simp only [PyData.showableAll, PyData.leavesShortAll, PyData.depthAll, PyData.weightAll, PyData.canLayAll0, List.length_cons, a1, a2, a5, b1, b2, b5, Bool.and_self, true_and, and_true]
    omega
theorem tz_tup {ds : List PyData} (h : ∀ d ∈ ds, It2 d) (hl : ds.length ≤ 100) : Tz (.tuple ds) := by
  obtain ⟨a1, a2, a3, a4, a5⟩ := it2_all h
  refine ⟨.inl (PyData.hasDict_of_canLay _ (by simp only [PyData.canLay0]; exact a5)), ?_, ?_, ?_, ?_⟩
  · simp only [PyData.showable]; exact a1
  · simp only [PyData.leavesShort]; exact a2
  · simp only [PyData.depth]; omega
  · simp only [PyData.weight]; omega
theorem tz_lst {ds : List PyData} (h : ∀ d ∈ ds, It2 d) (hl : ds.length ≤ 100) : Tz (.list ds) := by
  obtain ⟨a1, a2, a3, a4, a5⟩ := it2_all h
  refine ⟨.inl (PyData.hasDict_of_canLay _ (by simp only [PyData.canLay0]; exact a5)), ?_, ?_, ?_, ?_⟩
  · simp only [PyData.showable]; exact a1
  · simp only [PyData.leavesShort]; exact a2
  · simp only [PyData.depth]; omega
  · simp only [PyData.weight]; omega
theorem tz_one {ds : List PyData} (h : ∀ d ∈ ds, It2 d) (hl : ds.length ≤ 100) : Tz (.list [.list ds]) := by
  obtain ⟨a1, a2, a3, a4, a5⟩ := it2_all h
  refine ⟨.inl (PyData.hasDict_of_canLay _ (by simp only [PyData.canLay0, PyData.canLayAll0, a5, Bool.and_self])), ?_, ?_, ?_, ?_⟩
  · simp only [PyData.showable, PyData.showableAll, a1, Bool.and_self]
  · simp only [PyData.leavesShort, PyData.leavesShortAll, a2, Bool.and_self]
  · simp only [PyData.depth, PyData.depthAll]; omega
  · simp only [PyData.weight, PyData.weightAll]; omega
theorem tz_it {d : PyData} (h : It2 d) : Tz d := ⟨.inl (PyData.hasDict_of_canLay _ h.lay), h.sh, h.le, by have := h.de; omega, by have := h.we; omega⟩
theorem tz_dict : Tz (.dict []) := ⟨.inr rfl, by decide +kernel, by decide +kernel, by decide +kernel, by decide +kernel⟩
theorem it2_app {ds es : List PyData} (h1 : ∀ d ∈ ds, It2 d) (h2 : ∀ d ∈ es, It2 d) : ∀ d ∈ ds ++ es, It2 d := fun d hd => (List.mem_append.mp hd).elim (h1 d) (h2 d)
theorem it2_take {ds : List PyData} {n : Nat} (h : ∀ d ∈ ds, It2 d) : ∀ d ∈ ds.take n, It2 d := fun d hd => h d (List.mem_of_mem_take hd)
theorem it2_drop {ds : List PyData} {n : Nat} (h : ∀ d ∈ ds, It2 d) : ∀ d ∈ ds.drop n, It2 d := fun d hd => h d (List.mem_of_mem_drop hd)
theorem tz_len {d : PyData} (h : Tz d) : d.shown.length ≤ sizeLine := by
  have e := PyData.shown_le 25 (by decide) d h.le
  have w := h.we
  have : 27 * 200000 + 25 ≤ sizeLine := by decide
  omega
section
variable {X : Cx}
/-- repr of one value, while no repr is under way -/
def rReprZ : List V → Hp → VK → Prop := fun vs H Q => ∃ (g : Addr) (v : V) (d : PyData), vs = [v] ∧ Dv g H v d ∧ Tz d ∧ Q (.str d.shown) H
theorem cr_reprZ (hg : X.A.guards = some []) (hu : X.A.units + 100 < cLine) : CallR X (.builtin "repr") rReprZ := by
  intro pins s σ H vs us Q I r h
  obtain ⟨g, v, d, rfl, hd, tz, q⟩ := h
  obtain ⟨u, rfl, ru⟩ := vals1 r
  have byRef : ∀ (a : Addr) (as : List Addr), Reads s.heap (.ref a) d as → (d.hasDict = true → sysModules ∉ as) → wpAny (model X.prog X.w) X.A (call (.builtin "repr") [.ref a]) (EP X pins σ Q) X.xe s := fun a as rd no =>
    repr_of_reads' rd tz.sh no hg (by have := tz.de; omega) (fun _ _ e => e) (fun h' u tk k => ⟨.str d.shown, H, I.kept k, ⟨u, rfl⟩, q⟩) (tz_len tz)
  have nd : (∀ x, d ≠ .dict x) → d.hasDict = false := fun n => tz.di.elim id fun z => absurd z (n _)
  cases hd with
  | non =>
    cases ru
    exact PySem.P.repr_of_none ⟨.str _, H, I.tok _, ⟨_, rfl⟩, q⟩
  | bl b =>
    cases ru
    refine PySem.P.repr_of_bool ⟨.str _, H, I.tok _, ⟨_, rfl⟩, ?_⟩
    cases b <;> exact q
  | int i =>
    obtain ⟨t, rfl⟩ := ru
    have := tz.sh
    refine PySem.P.repr_of_int (by simpa only [PyData.showable, decide_eq_true_eq] using this) ⟨.str _, H, I.tok _, ⟨_, rfl⟩, q⟩
  | str x =>
    obtain ⟨t, rfl⟩ := ru
    exact PySem.P.repr_of_str ⟨.str _, H, I.tok _, ⟨_, rfl⟩, q⟩ (tz_len tz)
  | lst n e a =>
    have hd := Dv.lst n e a
    cases ru
    obtain ⟨as, rd, _⟩ := Dv.reads I _ _ _ hd rfl
    exact byRef _ as rd (PyData.noDict_hsm (nd fun _ z => nomatch z))
  | tup n e a =>
    have hd := Dv.tup n e a
    cases ru
    obtain ⟨as, rd, _⟩ := Dv.reads I _ _ _ hd rfl
    exact byRef _ as rd (PyData.noDict_hsm (nd fun _ z => nomatch z))
  | dic n e =>
    have hd := Dv.dic n e
    cases ru
    obtain ⟨as, rd, no⟩ := Dv.reads I _ _ _ hd rfl
    exact byRef _ as rd fun _ => no rfl
end
theorem inP_iff {ns : List Int} {c : Int × Int} : inP ns c = true ↔ (∃ x ∈ ns, x ≤ c.1) ∧ ∃ x ∈ ns, c.2 ≤ x := by
  simp only [inP, Bool.and_eq_true, List.any_eq_true, decide_eq_true_eq]
theorem outs_none {cs : List (Int × Int)} {ns : List Int} (h : ∀ c ∈ cs, inP ns c = true) : outs cs ns = [] := by
  unfold outs
  rw [List.filter_eq_nil_iff]
  intro c hc
  rw [h c hc]
  decide
/-- a cycle within the rest -/
structure Gd (rs : List Int) (c : Int × Int) : Prop where
  lt : c.1 < c.2
  ip : inP rs c = true
  b1 : c.1.natAbs ≤ 1000000000
  b2 : c.2.natAbs ≤ 1000000000
theorem rd_ints {ns : List Int} (h : ∀ n ∈ ns, n.natAbs ≤ 1000000000) : (dInts ns).all isRd = true := by
  rw [List.all_eq_true]
  intro d hd
  obtain ⟨n, hn, rfl⟩ := List.mem_map.mp hd
  have := h n hn
  exact decide_eq_true (by omega)
theorem rg_prs {rs : List Int} {cs : List (Int × Int)} (h : ∀ c ∈ cs, Gd rs c) : (dPairs cs).all isRg = true := by
  rw [List.all_eq_true]
  intro d hd
  obtain ⟨c, hc, rfl⟩ := List.mem_map.mp hd
  obtain ⟨h1, _, h2, h3⟩ := h c hc
  show (decide ((c.1.natAbs : Int) ≤ 1000000000) && decide ((c.2.natAbs : Int) ≤ 1000000000) && decide (c.1 < c.2)) = true
  rw [decide_eq_true (by omega), decide_eq_true (by omega), decide_eq_true h1]
  rfl
theorem count_true {rs : List Int} {cs : List (Int × Int)} (h : ∀ c ∈ cs, Gd rs c) (z : ZZ rs) (n : NF rs) (hb : ∀ n ∈ rs, n.natAbs ≤ 1000000000) : countB (.tuple (dPairs cs)) (.tuple (dInts rs)) = true := by
  show ((dPairs cs).all isRg && ((dInts rs).all isRd && leftB (intsOf (dInts rs))) && inB (pairsOf (dPairs cs)) (intsOf (dInts rs))) = true
  have e1 : leftB rs = true := by
    unfold leftB
    rw [decide_eq_true (zz_tp z), plc_of_nf n]
    rfl
  have e2 : inB cs rs = true := by
    unfold inB
    rw [List.all_eq_true]
    exact fun c hc => (h c hc).ip
  rw [rg_prs h, rd_ints hb, intsOf_ints, pairsOf_pairs, e1, e2]
  rfl
def dLP (cs : List (Int × Int)) (rs : List Int) : PyData := .tuple [.list (dPairs cs), .list (dInts rs)]
theorem shaped_lp (cs : List (Int × Int)) (rs : List Int) : SeqAt.shaped (dLP cs rs) = true :=
  shaped_of (by simp only [dLP, PyData.canLay0, PyData.canLayAll0, lay_ints, lay_pairs, Bool.and_self]) (by
    have a := KG.depth_all rs
    have b := depth_pairs cs
    show PyData.depth (.tuple [.list (dPairs cs), .list (rs.map PyData.int)]) ≤ 64
    simp only [PyData.depth, PyData.depthAll]; omega)
theorem dp_lp {K : PySem.W.Frag} {H : Hp} {u t1 t2 : Addr} {ys : List V} {cs : List (Int × Int)} {rs : List Int} (hu : H u = some (.tup [.ref t1, .ref t2])) (h1 : H t1 = some (.lst ys)) (pa : PairsAt H ys cs) (h2 : H t2 = some (.lst (rs.map V.int))) : Dp K H (.ref u) (dLP cs rs) :=
  .tup (SqT.of hu) (.cons (.lst (SqL.of h1) (dp_pairs pa)) (.cons (.lst (SqL.of h2) (dp_ints _)) .nil))
theorem it2_pair {a b : Int} (h1 : a.natAbs < 2 ^ 39) (h2 : b.natAbs < 2 ^ 39) : It2 (.tuple [.int a, .int b]) := by
  obtain ⟨a1, a2, a3, a4, a5⟩ := it2_all (ds := [.int a, .int b]) (fun d hd => by
    rcases List.mem_cons.mp hd with rfl | hd
    · exact it2_int h1
    rcases List.mem_cons.mp hd with rfl | hd
    · exact it2_int h2
    · exact (List.not_mem_nil hd).elim)
  have x := it_pair h1 h2
  refine ⟨?_, ?_, ?_, ?_, ?_⟩
  · simp only [PyData.showable]; exact a1
  · simp only [PyData.leavesShort]; exact a2
  · simp only [PyData.depth, PyData.depthAll]; omega
  · exact x.we
  · simp only [PyData.canLay0]; exact a5
theorem it2_ints {ns : List Int} (h : ∀ n ∈ ns, n.natAbs ≤ 1000000000) : ∀ d ∈ dInts ns, It2 d := fun d hd => by
  obtain ⟨n, hn, rfl⟩ := List.mem_map.mp hd
  have := h n hn
  exact it2_int (by omega)
theorem it2_prs {cs : List (Int × Int)} (h : ∀ c ∈ cs, c.1.natAbs ≤ 1000000010 ∧ c.2.natAbs ≤ 1000000010) : ∀ d ∈ dPairs cs, It2 d := fun d hd => by
  obtain ⟨c, hc, rfl⟩ := List.mem_map.mp hd
  have := h c hc
  exact it2_pair (by omega) (by omega)
theorem tz_two {ds es : List PyData} (h1 : ∀ d ∈ ds, It2 d) (h2 : ∀ d ∈ es, It2 d) (l1 : ds.length ≤ 80) (l2 : es.length ≤ 80) : Tz (.list [.list ds, .list es]) := by
  obtain ⟨a1, a2, a3, a4, a5⟩ := it2_all h1
  obtain ⟨b1, b2, b3, b4, b5⟩ := it2_all h2
  refine ⟨.inl (PyData.hasDict_of_canLay _ (by simp only [PyData.canLay0, PyData.canLayAll0, a5, b5, Bool.and_self])), ?_, ?_, ?_, ?_⟩
  · simp only [PyData.showable, PyData.showableAll, a1, b1, Bool.and_self]
  · simp only [PyData.leavesShort, PyData.leavesShortAll, a2, b2, Bool.and_self]
  · simp only [PyData.depth, PyData.depthAll]; omega
  · simp only [PyData.weight, PyData.weightAll]; omega
theorem len_dInts (ns : List Int) : (dInts ns).length = ns.length := List.length_map _
theorem len_dPairs (cs : List (Int × Int)) : (dPairs cs).length = cs.length := List.length_map _
theorem join5 {R : Hp → V → Option V → Option V → Option V → Option V → Prop} {Pj : Hp → V → Prop} {A B : Prop} {c : Bool} (h1 : c = true → (∀ H v o1 o2 o3 o4, Pj H v → R H v o1 o2 o3 o4) → A) (h2 : c = false → (∀ H v o1 o2 o3 o4, Pj H v → R H v o1 o2 o3 o4) → B) (k : ∀ H v o1 o2 o3 o4, Pj H v → R H v o1 o2 o3 o4) : if c = true then A else B := by
  cases c with
  | true => exact iteT (h1 rfl k)
  | false => exact iteF (h2 rfl k)
theorem PairsAt.chf {f : Addr} {H H' : Hp} (c : Ch f H H') (hf : FeedAt H f) {xs : List V} {rs : List (Int × Int)} (h : PairsAt H xs rs) : PairsAt H' xs rs := by
  obtain ⟨_, _, _, _, _, e⟩ := hf
  exact ch_pairs c e h
theorem ins_pairs {H : Hp} {zs : List V} {ws : List (Int × Int)} {p : Addr} {r : Int × Int} (k : Nat) (pw : PairsAt H zs ws) (hp : H p = some (.tup [.int r.1, .int r.2])) :
    ∃ us, PairsAt H (zs.take k ++ [V.ref p] ++ zs.drop k) us ∧ us.length = ws.length + 1 ∧ (∀ c ∈ us, c ∈ ws ∨ c = r) ∧ r ∈ us := by
  obtain ⟨e1, h1⟩ := QH.pairs_key pw
  have e2 : QH.kOf H (.ref p) = r := QH.kOf_at hp
  have inl : ∀ x ∈ zs.take k ++ [V.ref p] ++ zs.drop k, x ∈ zs ∨ x = .ref p := fun x hx => by
    rcases List.mem_append.mp hx with h | h
    · rcases List.mem_append.mp h with h | h
      · exact .inl (List.mem_of_mem_take h)
      · exact .inr (List.mem_singleton.mp h)
    · exact .inl (List.mem_of_mem_drop h)
  refine ⟨(zs.take k ++ [V.ref p] ++ zs.drop k).map (QH.kOf H), QH.pairs_of fun x hx => ?_, ?_, fun c hc => ?_, ?_⟩
  · rcases inl x hx with h | rfl
    · exact h1 x h
    · exact ⟨p, rfl, by rw [e2]; exact hp⟩
  · have := pw.length
    simp only [List.length_map, List.length_append, List.length_take, List.length_drop, List.length_cons, List.length_nil]
    omega
  · obtain ⟨x, hx, rfl⟩ := List.mem_map.mp hc
    rcases inl x hx with h | rfl
    · left
      rw [e1]
      exact List.mem_map_of_mem h
    · right
      exact e2
  · rw [← e2]
    exact List.mem_map_of_mem (List.mem_append_left _ (List.mem_append_right _ List.mem_cons_self))
theorem inP_small {rs : List Int} {c : Int × Int} (h : rs.length < 2) (hc : c.1 < c.2) : inP rs c = false := by
  cases e : inP rs c with
  | false => rfl
  | true =>
    obtain ⟨⟨x, hx, h1⟩, ⟨y, hy, h2⟩⟩ := inP_iff.mp e
    match rs, h with
    | [], _ => exact (List.not_mem_nil hx).elim
    | [z], _ =>
      rw [List.mem_singleton.mp hx] at h1
      rw [List.mem_singleton.mp hy] at h2
      omega
theorem inP_low {rs : List Int} {c : Int × Int} (h : ∀ x ∈ rs, c.1 < x) : inP rs c = false := by
  cases e : inP rs c with
  | false => rfl
  | true =>
    obtain ⟨⟨x, hx, h1⟩, _⟩ := inP_iff.mp e
    have := h x hx
    omega
theorem inP_high {rs : List Int} {c : Int × Int} (h : ∀ x ∈ rs, x < c.2) : inP rs c = false := by
  cases e : inP rs c with
  | false => rfl
  | true =>
    obtain ⟨_, ⟨x, hx, h1⟩⟩ := inP_iff.mp e
    have := h x hx
    omega
theorem outs_some {ws : List (Int × Int)} {rs : List Int} (h : ∃ c ∈ ws, inP rs c = false) : ∃ c r, outs ws rs = c :: r := by
  obtain ⟨c, hc, e⟩ := h
  have m : c ∈ outs ws rs := List.mem_filter.mpr ⟨hc, by rw [e]; rfl⟩
  cases ho : outs ws rs with
  | nil => rw [ho] at m; exact (List.not_mem_nil m).elim
  | cons d r => exact ⟨d, r, rfl⟩
section
variable {P : Program} {w : World} {K : PySem.W.Frag} {mg : Str → Option Value} {base : Heap} {fNU fRD fRG fCO fRO fTP fIL fBT fSW fMT fPB fCN fAL fOU fIS fIC fLW fRF fWC fFE fTA fPI fTN fRN fHS fMY fKT fMD fMX C fIN pO fOF p1 fPC p2 fPR_ CE fEI : Addr} {dNU dRD dRG dCO dRO dTP dIL dBT dSW dMT dPB dCN dAL dOU dIS dIC dLW dRF dWC dFE dTA dPI dTN dRN dHS dMY dKT dMD dMX dIN dOF dPC dPR_ dEI : FuncData}
def spLaw (K : PySem.W.Frag) : Sp := fun vs H Q _ => ∃ (a : Addr) (ns : List Int), vs = [.ref a] ∧ SqL K H a (ns.map V.int) ∧ ns.length ≤ 63 ∧ ∀ H', Q (.bl true) H'
theorem len_law {K : PySem.W.Frag} : ∀ vs H Q E, (spLaw K) vs H Q E → vs.length = (["script"] : List Str).length := fun vs H Q E h => by
  obtain ⟨a, ns, rfl, _⟩ := h
  rfl
theorem ok_law {f0 : Addr} {fd : FuncData} (F : Fun K "law" "law" L1L.sLaw f0 fd) (T : Txt P K mg fNU fRD fRG fCO fRO fTP fIL fBT fSW fMT fPB fCN fAL fOU fIS fIC fLW fRF fWC fFE fTA fPI fTN fRN fHS fMY fKT fMD fMX C fIN pO fOF p1 fPC p2 fPR_ CE fEI dNU dRD dRG dCO dRO dTP dIL dBT dSW dMT dPB dCN dAL dOU dIS dIC dLW dRF dWC dFE dTA dPI dTN dRN dHS dMY dKT dMD dMX dIN dOF dPC dPR_ dEI) : KW.Kept P w K mg base 11 f0 fd ["script"] (spLaw K) := by
  have GCO : FnOk P w K mg base CX0 1 fCO dCO ["outer", "inner"] (spCont K) := ok_Cont T.FCO
  have GRO : FnOk P w K mg base CX0 1 fRO dRO ["one", "other"] PA.spRng := PA.ok_Rng T.FRO T.min T.max
  have GIL : FnOk P w K mg base CX0 2 fIL dIL ["points", "reading"] (spLO K) := ok_LO T.FIL T.FBT T.gBT T.bBT T.len
  have GTP : FnOk P w K mg base CX0 3 fTP dTP ["load"] (spTP K) := both (ok_TPl T.FTP GIL T.gIL T.kIL T.bIL T.tuple) (ok_TPt T.FTP GIL T.gIL T.kIL T.bIL T.tuple)
  have GSW : FnOk P w K mg base CX0 4 fSW dSW ["load"] (spSw K) := ok_sw T.FSW GTP T.gTP T.kTP T.bTP (GRO.mono (by decide)) T.gRO T.kRO T.bRO T.zip
  have GMT : FnOk P w K mg base CX0 2 fMT dMT ["points", "place"] (spMT K) := ok_MT T.FMT T.abs
  have GPB : FnOk P w K mg base CX0 3 fPB dPB ["rest", "reading"] spPB := ok_PB T.FPB GIL T.gIL T.kIL T.bIL GMT T.gMT T.kMT T.bMT (GRO.mono (by decide)) T.gRO T.kRO T.bRO T.len
  have GCN : FnOk P w K mg base CX0 4 fCN dCN ["load"] (spCo K) := ok_Co T.FCN GPB T.gPB T.kPB T.bPB
  have GNU : FnOk P w K mg base CX0 1 fNU dNU ["value"] spNu := ok_nu T.FNU T.isinstance T.int T.bool
  have GRD : FnOk P w K mg base CX0 2 fRD dRD ["value"] M3N.spRd := ok_rd T.FRD GNU T.gNU T.kNU T.bNU T.abs T.gLIM
  have GRG : FnOk P w K mg base CX0 3 fRG dRG ["value"] M3N.spRg := ok_rg T.FRG GRD T.gRD T.kRD T.bRD T.isinstance T.tuple T.len
  have GAL : FnOk P w K mg base CX0 5 fAL dAL ["points"] spAl := ok_al T.FAL GCN T.gCN T.kCN T.bCN T.list
  have GOU : FnOk P w K mg base CX0 2 fOU dOU ["cycles", "rest"] spOu := ok_ou T.FOU GCO T.gCO T.kCO T.bCO T.min T.max T.list
  have GIS : FnOk P w K mg base CX0 6 fIS dIS ["value"] spIs := ok_is T.FIS GRD T.gRD T.kRD T.bRD GAL T.gAL T.kAL T.bAL T.isinstance T.tuple T.all
  have GIC : FnOk P w K mg base CX0 7 fIC dIC ["cycles", "rest"] spIC := ok_ic T.FIC GRG T.gRG T.kRG T.bRG GIS T.gIS T.kIS T.bIS GOU T.gOU T.kOU T.bOU T.isinstance T.tuple T.all
  have GIN : FnOk P w K mg base CX0 1 fIN dIN ["self", "cycles", "rest"] (spInit K C) := ok_init T.FIN T.cn T.sorted T.tuple
  have GOF : FnOk P w K mg base CX0 5 fOF dOF ["cls", "load"] (spOf K C) := ok_of T.FOF T.mkc (GIN.mono (by decide)) T.bIN GCN T.gCN T.kCN T.bCN
  have GPC : FnOk P w K mg base CX0 1 fPC dPC ["self"] (spPC C) := ok_PC T.FPC T.cn
  have GPR_ : FnOk P w K mg base CX0 1 fPR_ dPR_ ["self"] (spPR C) := ok_PR T.FPR_ T.cn
  have GFE : FnOk P w K mg base CX0 1 fFE dFE ["script", "index"] (spFeed K) := ok_feed T.FFE T.len T.max T.abs
  have GTA : FnOk P w K mg base CX0 1 fTA dTA ["feed", "size"] spTake := ok_take T.FTA
  have GPI : FnOk P w K mg base CX0 2 fPI dPI ["feed", "options"] (spPick K) := ok_pick T.FPI T.FTA T.gTA T.bTA T.len
  have GTN : FnOk P w K mg base CX0 1 fTN dTN ["load"] (M3W.spTn K) := M3W.ok_tn T.FTN T.len T.range T.enumerate
  have GRN : FnOk P w K mg base CX0 1 fRN dRN ["first", "second"] PA.spRng := M3W.ok_rn T.FRN T.min T.max
  have GHS : FnOk P w K mg base CX0 1 fHS dHS ["outer", "inner"] (spCont K) := M3W.ok_hs T.FHS
  have GMY : FnOk P w K mg base CX0 2 fMY dMY ["points", "k"] (M3W.spMy K) := M3W.ok_my T.FMY GRN T.gRN T.kRN T.bRN GHS T.gHS T.kHS T.bHS
  have GKT : FnOk P w K mg base CX0 3 fKT dKT ["load"] (M3W.spCt K) := M3W.ok_ct T.FKT GTN T.gTN T.kTN T.bTN GRN T.gRN T.kRN T.bRN GMY T.gMY T.kMY T.bMY T.len T.range T.sorted
  have GMX : FnOk P w K mg base CX0 2 fMX dMX ["feed", "things"] L1X.spMx := L1X.ok_mx T.FMX GTA T.gTA T.kTA T.bTA T.len T.range T.list
  have GOL : FnOk P w K mg base CX0 2 fOU dOU ["cycles", "rest"] spOuL := ok_ouL T.FOU GCO T.gCO T.kCO T.bCO T.min T.max T.list
  have GEI : FnOk P w K mg base CX0 1 fEI dEI ["self", "cycle"] (XS.spInit CE "cycle") := XS.fn_init T.FEI T.sK T.sC rfl (NdefX.nscope_by (by decide +kernel)) rfl rfl (by decide) (by decide) rfl rfl T.xf.2 (fun _ => rfl) (fun _ => rfl)
  have GRF : FnOk P w K mg base (CX P w) 3 fRF dRF ["cycles", "rest"] (spRf CE) := ok_rf T.FRF T.eC T.gE GEI T.bEI GOL T.gOU T.kOU T.bOU
  have GWC : FnOk P w K mg base CX0 1 fWC dWC ["points", "place", "cycles"] spWC := ok_wc T.FWC T.sorted
  have GLW : FnOk P w K mg base (CX P w) 5 fLW dLW ["cycles", "rest"] (spLW CE) := ok_lw T.FLW (GRF.mono (by decide)) T.gRF T.kRF T.bRF GSW T.gSW T.kSW T.bSW (GWC.mono (by decide)) T.gWC T.kWC T.bWC T.min T.max T.tuple
  have GMD : FnOk P w K mg base CX0 6 fMD dMD ["cycles", "rest"] L1R.spMd := L1R.ok_md T.FMD T.gE T.xf T.exm GLW T.gLW T.kLW T.bLW
  clear GOL GEI GRF GWC GLW
  have GCO := GCO.mono (show 1 ≤ 10 by decide)
  have GRO := GRO.mono (show 1 ≤ 10 by decide)
  have GIL := GIL.mono (show 2 ≤ 10 by decide)
  have GTP := GTP.mono (show 3 ≤ 10 by decide)
  have GSW := GSW.mono (show 4 ≤ 10 by decide)
  have GMT := GMT.mono (show 2 ≤ 10 by decide)
  have GPB := GPB.mono (show 3 ≤ 10 by decide)
  have GCN := GCN.mono (show 4 ≤ 10 by decide)
  have GNU := GNU.mono (show 1 ≤ 10 by decide)
  have GRD := GRD.mono (show 2 ≤ 10 by decide)
  have GRG := GRG.mono (show 3 ≤ 10 by decide)
  have GAL := GAL.mono (show 5 ≤ 10 by decide)
  have GOU := GOU.mono (show 2 ≤ 10 by decide)
  have GIS := GIS.mono (show 6 ≤ 10 by decide)
  have GIC := GIC.mono (show 7 ≤ 10 by decide)
  have GIN := GIN.mono (show 1 ≤ 9 by decide)
  have GOF := GOF.mono (show 5 ≤ 10 by decide)
  have GPC := GPC.mono (show 1 ≤ 9 by decide)
  have GPR_ := GPR_.mono (show 1 ≤ 9 by decide)
  have GFE := GFE.mono (show 1 ≤ 10 by decide)
  have GTA := GTA.mono (show 1 ≤ 10 by decide)
  have GPI := GPI.mono (show 2 ≤ 10 by decide)
  have GTN := GTN.mono (show 1 ≤ 10 by decide)
  have GRN := GRN.mono (show 1 ≤ 10 by decide)
  have GHS := GHS.mono (show 1 ≤ 10 by decide)
  have GMY := GMY.mono (show 2 ≤ 10 by decide)
  have GKT := GKT.mono (show 3 ≤ 10 by decide)
  have GMX := GMX.mono (show 2 ≤ 10 by decide)
  have GMD := GMD.mono (show 6 ≤ 10 by decide)
  have GPR := GPR_
  refine KW.kept_of F L1L.scLaw len_law (fun cdv A outer s H vs Q E hgA hr h => ?_)
  · obtain ⟨a, ns, rfl, hS, hlen, q⟩ := h
    have hg : (A.deeper (envOfC "law" (defScope L1L.sLaw) s.heap.objs.size f0 cdv)).guards = some [] := hgA
    have hu : (A.deeper (envOfC "law" (defScope L1L.sLaw) s.heap.objs.size f0 cdv)).units + 100 < cLine := by have := hr.un; omega
    refine ⟨_, (pss_cons (ps_for PassesOwn.never rfl (pi_range1 rfl T.range (pa_cons (pe_callB (call_max2 rfl) (by rfl) T.max (by decide +kernel) (pa_cons pe_int (pa_cons (pe_callB (call_min2 rfl) (by rfl) T.min (by decide +kernel) (pa_cons pe_int (pa_cons (pe_callB call_len_seq (by rfl) T.len PySem.boot_len (pa_cons (pv 0) pa_nil)) pa_nil))) pa_nil))) pa_nil)) (pg_name (i := 1) L1L.scLaw.nd rfl (.inl rfl))
      (pss_cons (ps_set (i := 2) L1L.scLaw.nd rfl (.inr rfl) (pe_call GFE hr (by rfl) T.gFE T.kFE T.bFE .nil pass0 (pa_cons (pv 0) (pa_cons (pv 1) pa_nil))))
      (pss_cons (ps_set (i := 3) L1L.scLaw.nd rfl (.inr rfl) (pe_call GPI hr (by rfl) T.gPI T.kPI T.bPI .nil pass0 (pa_cons (pv 2) (pa_cons (pe_lst (pa_cons (pe_lst (pa_cons pe_int (pa_cons pe_int (pa_cons pe_int (pa_cons pe_int pa_nil))))) (pa_cons (pe_lst (pa_cons pe_int (pa_cons pe_int (pa_cons (pe_un un_neg pe_int) (pa_cons (pe_op op_pow pe_int pe_int) (pa_cons (pe_un un_neg (pe_op op_pow pe_int pe_int)) pa_nil)))))) (pa_cons (pe_listRg rfl (by rfl) T.list (prg_1 (by rfl) T.range pe_int)) pa_nil)))) pa_nil))))
      (pss_cons (ps_asg (pe_call GKT hr (by rfl) T.gKT T.kKT T.bKT .nil pass0 (pa_cons (pe_lc (own := [("turn", 4)]) (g := gName 4) (tt := tYes) (te := tCall (spPick K) [] E0 (tCons (tVar 2) (tCons (tVar 3) tNil))) rfl L1L.scLaw.nd (pi_range1 rfl T.range (pa_cons (pe_call GTA hr (by rfl) T.gTA T.kTA T.bTA .nil pass0 (pa_cons (pv 2) (pa_cons pe_int pa_nil))) pa_nil)) (blkOk_by (own := [("turn", 4)]) (N := ["script", "index", "feed", "some", "turn", "cycles", "rest", "low", "high", "start", "before", "found", "caught", "counted", "wide", "more", "seen", "due", "one"]) (sc := defScope L1L.sLaw) (by decide +kernel)) (fun _ _ _ _ _ => (pg_name (i := 4) L1L.scLaw.nd rfl (Or.inl rfl) (Or.inr rfl))) (fun _ _ _ _ _ => pts_nil) (fun _ _ _ _ _ => (pe_call GPI hr (by rfl) T.gPI T.kPI T.bPI .nil pass0 (pa_cons (pv 2) (pa_cons (pv 3) pa_nil))))) pa_nil)) (pg_tup rfl (pgs_cons (pg_name (i := 5) L1L.scLaw.nd rfl (.inl rfl)) (pgs_cons (pg_name (i := 6) L1L.scLaw.nd rfl (.inr rfl)) pgs_nil))))
      (pss_cons (ps_if (pt_cmpR op_gt (pe_callB call_len_seq (by rfl) T.len PySem.boot_len (pa_cons (pv 6) pa_nil)) pe_int (nomark _)) (pss_cons (ps_par (i := 7) (j := 8) (by rfl) L1L.scLaw.nd rfl rfl (by decide) rfl rfl (pa_cons (pe_callB (GU.cr_minS rfl) (by rfl) T.min (by decide +kernel) (pa_cons (pv 6) pa_nil)) (pa_cons (pe_callB (GU.cr_maxS rfl) (by rfl) T.max (by decide +kernel) (pa_cons (pv 6) pa_nil)) pa_nil)) (by rfl))
      (pss_one (ps_for PassesOwn.never rfl (pi_range1 rfl T.range (pa_cons (pe_call GTA hr (by rfl) T.gTA T.kTA T.bTA .nil pass0 (pa_cons (pv 2) (pa_cons pe_int pa_nil))) pa_nil)) (pg_name (i := 4) L1L.scLaw.nd rfl (.inl rfl))
      (pss_cons (ps_set (i := 9) L1L.scLaw.nd rfl (.inl rfl) (pe_op op_add (pv 7) (pe_call GTA hr (by rfl) T.gTA T.kTA T.bTA .nil pass0 (pa_cons (pv 2) (pa_cons (pe_op op_sub (pv 8) (pv 7)) pa_nil)))))
      (pss_one (ps_set (i := 5) L1L.scLaw.nd rfl (.inl rfl) (pe_op op_cat (pv 5) (pe_lst (pa_cons (pe_tup (pa_cons (pv 9) (pa_cons (pe_op op_add (pe_op op_add (pv 9) pe_int) (pe_call GTA hr (by rfl) T.gTA T.kTA T.bTA .nil pass0 (pa_cons (pv 2) (pa_cons (pe_op op_sub (pv 8) (pv 9)) pa_nil)))) pa_nil))) pa_nil))))))))) pss_nil)
      (pss_cons (ps_set (i := 5) L1L.scLaw.nd rfl (.inl rfl) (pe_call GMX hr (by rfl) T.gMX T.kMX T.bMX .nil pass0 (pa_cons (pv 2) (pa_cons (pv 5) pa_nil))))
      (pss_cons (ps_set (i := 10) L1L.scLaw.nd rfl (.inl rfl) (pe_callB (cr_reprZ hg hu) (by rfl) T.repr (by decide +kernel) (pa_cons (pe_lst (pa_cons (pv 5) (pa_cons (pv 6) pa_nil))) pa_nil)))
      (pss_cons (ps_asg (pe_call GMD hr (by rfl) T.gMD T.kMD T.bMD .nil pass0 (pa_cons (pv 5) (pa_cons (pe_callTy call_tuple_of (by rfl) T.tuple (by decide +kernel) (pa_cons (pv 6) pa_nil)) pa_nil))) (pg_tup rfl (pgs_cons (pg_name (i := 11) L1L.scLaw.nd rfl (.inl rfl)) (pgs_cons (pg_name (i := 12) L1L.scLaw.nd rfl (.inl rfl)) pgs_nil))))
      (pss_cons (ps_if (PW.pt (pw_or (pt_cmpR op_notN (pv 12) pe_non (nomark _)) (pw_or (pt_not (pt_val (pe_callB call_isi (by rfl) T.isinstance (by decide +kernel) (pa_cons (pv 11) (pa_cons (pe_bltn (v := .ty "tuple") (by rfl) T.tuple (by decide +kernel) rfl) pa_nil))))) (pw_or1 (pt_cmpR (op_neD hr.units) (pe_call GTN hr (by rfl) T.gTN T.kTN T.bTN .nil pass0 (pa_cons (pv 11) pa_nil)) (pe_callTy call_list_of (by rfl) T.list (by decide +kernel) (pa_cons (pv 11) pa_nil)) (nomark _)))))) (pss_one (ps_ret pe_bl)) pss_nil)
      (pss_cons (ps_if (PW.pt (pw_or (pt_cmpR (op_neD hr.units) (pe_call GKT hr (by rfl) T.gKT T.kKT T.bKT .nil pass0 (pa_cons (pv 11) pa_nil)) (pe_tup (pa_cons (pe_callB cr_sortedPO (by rfl) T.sorted (by decide +kernel) (pa_cons (pv 5) pa_nil)) (pa_cons (pv 6) pa_nil))) (nomark _)) (pw_or1 (pt_not (pt_val (pe_call GIC hr (by rfl) T.gIC T.kIC T.bIC .nil pass0 (pa_cons (pe_callTy call_tuple_of (by rfl) T.tuple (by decide +kernel) (pa_cons (pv 5) pa_nil)) (pa_cons (pe_callTy call_tuple_of (by rfl) T.tuple (by decide +kernel) (pa_cons (pv 6) pa_nil)) pa_nil)))))))) (pss_one (ps_ret pe_bl)) pss_nil)
      (pss_cons (ps_set (i := 13) L1L.scLaw.nd rfl (.inl rfl) (ClX.pe_cmeth (pe_glob (v := .ref C) (by rfl) T.gC rfl) T.rd T.cm (GOF.raw T.bOF .nil) hr pass0 (pa_cons (pv 11) pa_nil)))
      (pss_cons (ps_if (pt_cmpR (op_neD hr.units) (pe_tup (pa_cons (pe_callTy call_list_of (by rfl) T.list (by decide +kernel) (pa_cons (pe_prop (pv 13) T.cn.cl T.prC GPC hr T.bPC .nil pass0 (by rfl)) pa_nil)) (pa_cons (pe_callTy call_list_of (by rfl) T.list (by decide +kernel) (pa_cons (pe_prop (pv 13) T.cn.cl T.prR GPR hr T.bPR_ .nil pass0 (by rfl)) pa_nil)) pa_nil))) (pe_tup (pa_cons (pe_callB cr_sortedPO (by rfl) T.sorted (by decide +kernel) (pa_cons (pv 5) pa_nil)) (pa_cons (pv 6) pa_nil))) (nomark _)) (pss_one (ps_ret pe_bl)) pss_nil)
      (pss_cons (ps_par (i := 7) (j := 8) (by rfl) L1L.scLaw.nd rfl rfl (by decide) rfl rfl (pa_cons (pe_op op_sub (pe_callB (GU.cr_minS rfl) (by rfl) T.min (by decide +kernel) (pa_cons (pe_op op_cat (pv 6) (pe_lst (pa_cons pe_int pa_nil))) pa_nil)) pe_int) (pa_cons (pe_op op_add (pe_callB (GU.cr_maxS rfl) (by rfl) T.max (by decide +kernel) (pa_cons (pe_op op_cat (pv 6) (pe_lst (pa_cons pe_int pa_nil))) pa_nil)) pe_int) pa_nil)) (by rfl))
      (pss_cons (ps_set (i := 14) L1L.scLaw.nd rfl (.inl rfl) (pe_lst (pa_cons (pe_tup (pa_cons (pv 7) (pa_cons pe_int pa_nil))) (pa_cons (pe_tup (pa_cons pe_int (pa_cons (pv 8) pa_nil))) (pa_cons (pe_tup (pa_cons (pe_op op_sub (pv 7) pe_int) (pa_cons (pe_op op_add (pv 8) pe_int) pa_nil))) (pa_cons (pe_tup (pa_cons (pv 8) (pa_cons (pe_op op_add (pv 8) pe_int) pa_nil))) (pa_cons (pe_tup (pa_cons (pe_op op_sub (pv 7) pe_int) (pa_cons (pv 7) pa_nil))) (pa_cons (pe_tup (pa_cons (pe_op op_sub (pv 7) pe_int) (pa_cons (pe_op op_add (pv 7) pe_int) pa_nil))) pa_nil))))))))
      (pss_cons (ps_set (i := 15) L1L.scLaw.nd rfl (.inl rfl) (pe_callTy call_list_of (by rfl) T.list (by decide +kernel) (pa_cons (pv 5) pa_nil)))
      (pss_cons (ps_for PassesOwn.never rfl (pi_range1 rfl T.range (pa_cons (pe_op op_add pe_int (pe_call GTA hr (by rfl) T.gTA T.kTA T.bTA .nil pass0 (pa_cons (pv 2) (pa_cons pe_int pa_nil)))) pa_nil)) (pg_name (i := 4) L1L.scLaw.nd rfl (.inl rfl))
      (pss_one (ps_expr (pe_bm PySem.F.plainAttrs_list PySem.F.slot_list_insert PySem.F.type_list_insert mt_insert (pv 15) (pa_cons (pe_call GTA hr (by rfl) T.gTA T.kTA T.bTA .nil pass0 (pa_cons (pv 2) (pa_cons (pe_op op_add (pe_callB call_len_seq (by rfl) T.len PySem.boot_len (pa_cons (pv 15) pa_nil)) pe_int) pa_nil))) (pa_cons (pe_call GPI hr (by rfl) T.gPI T.kPI T.bPI .nil pass0 (pa_cons (pv 2) (pa_cons (pv 14) pa_nil))) pa_nil))))))
      (pss_cons (ps_set (i := 16) L1L.scLaw.nd rfl (.inl rfl) (pe_callB (cr_reprZ hg hu) (by rfl) T.repr (by decide +kernel) (pa_cons (pv 15) pa_nil)))
      (pss_cons (ps_setLc (i := 17) (own := [("one", 18)]) (g := gName 18)   rfl L1L.scLaw.nd rfl rfl (sw_true rfl rfl rfl (by decide +kernel)) (pi_list (pv 15)) (blkOk_by (own := [("one", 18)]) (N := ["script", "index", "feed", "some", "turn", "cycles", "rest", "low", "high", "start", "before", "found", "caught", "counted", "wide", "more", "seen", "due", "one"]) (sc := defScope L1L.sLaw) (by decide +kernel)) (fun _ _ _ _ _ => (pg_name (i := 18) L1L.scLaw.nd rfl (Or.inl rfl) (Or.inr rfl))) (fun _ _ _ _ _ => pts_one (PW.pt (pw_or (pt_cmpR op_lt (pe_callB (show CallR _ (.builtin "len") (fun xs H Q => ∃ p ys, xs = [V.ref p] ∧ (SqL K H p ys ∨ SqT K H p ys) ∧ Q (V.int ys.length) H) from call_len_seq) (by rfl) T.len PySem.boot_len (pa_cons (pv 6) pa_nil)) pe_int (nomark _)) (pw_or (pt_cmpR op_lt (pe_ix (show IxR _ (rIxT K) from ix_tup) (pv 18) pe_int (fun _ _ => rfl)) (pe_callB (show CallR _ (.builtin "min") (GU.rMinS K) from GU.cr_minS rfl) (by rfl) T.min (by decide +kernel) (pa_cons (pv 6) pa_nil)) (nomark _)) (pw_or1 (pt_cmpR op_gt (pe_ix (show IxR _ (rIxT K) from ix_tup) (pv 18) pe_int (fun _ _ => rfl)) (pe_callB (show CallR _ (.builtin "max") (GU.rMaxS K) from GU.cr_maxS rfl) (by rfl) T.max (by decide +kernel) (pa_cons (pv 6) pa_nil)) (nomark _))))))) (fun _ _ _ _ _ => (pv 18)))
      (pss_one (ps_if (PW.pt (pw_or (pt_cmpR (op_neD hr.units) (pe_ix ix_tup (pe_call GMD hr (by rfl) T.gMD T.kMD T.bMD .nil pass0 (pa_cons (pv 15) (pa_cons (pe_callTy call_tuple_of (by rfl) T.tuple (by decide +kernel) (pa_cons (pv 6) pa_nil)) pa_nil))) pe_int (fun _ _ => rfl)) (pe_ix ix_list (pv 17) pe_int (fun _ _ => rfl)) (nomark _)) (pw_or (pt_cmpR op_ne (pe_callB (cr_reprZ hg hu) (by rfl) T.repr (by decide +kernel) (pa_cons (pe_lst (pa_cons (pv 5) (pa_cons (pv 6) pa_nil))) pa_nil)) (pv 10) (nomark _)) (pw_or1 (pt_cmpR op_ne (pe_callB (cr_reprZ hg hu) (by rfl) T.repr (by decide +kernel) (pa_cons (pv 15) pa_nil)) (pv 16) (nomark _)))))) (pss_one (ps_ret pe_bl)) pss_nil))))))))))))))))))))
      (pss_one (ps_ret pe_bl))), ?_⟩
    have l2s : 2 ≤ sizeLine := by decide
    have l3s : 3 ≤ sizeLine := by decide
    refine ⟨.ref a, rfl, a, ns.map V.int, rfl, .inl hS, 3, ((ns.map V.int).length : Int), rfl, 1, _, rfl, _, rfl, ?_⟩
    generalize hm : (if (if ((ns.map V.int).length : Int) < 3 then ((ns.map V.int).length : Int) else 3) > 1 then (if ((ns.map V.int).length : Int) < 3 then ((ns.map V.int).length : Int) else 3) else 1) = m
    have m0 : 0 ≤ m ∧ m ≤ 4 := by subst hm; split <;> split <;> omega
    refine ⟨by omega, by omega, for_range (lo := 0) (n := m.toNat) (fun i σ H' => Same H H' ∧ ∃ r1 r2 r3 r4 r5 r6 r7 r8 r9 r10 r11 r12 r13 r14 r15 r16 r17 r18 : Option V, σ = [some (.ref a), r1, r2, r3, r4, r5, r6, r7, r8, r9, r10, r11, r12, r13, r14, r15, r16, r17, r18]) ⟨Same.refl H, _, _, _, _, _, _, _, _, _, _, _, _, _, _, _, _, _, _, rfl⟩ ?_ (fun σ H1 _ => q _)⟩
    rintro i σ H' hi ⟨sm, r1, r2, r3, r4, r5, r6, r7, r8, r9, r10, r11, r12, r13, r14, r15, r16, r17, r18, rfl⟩
    refine ⟨.ref a, rfl, .int (0 + (i : Int)), rfl, a, ns, 0 + (i : Int), rfl, sm.seq hS, by omega, by omega, fun H1 f s1 nf fe => ?_⟩
    have hf0 : H f = none := sm.free nf
    have sm1 := sm.trans s1
    clear sm s1 nf hm m0
    refine ⟨.ref f, rfl, by show 4 ≤ sizeLine; decide, fun p1 np1 => ?_⟩
    have t1 := same_new np1 (o := .lst [.int 0, .int 1, .int 2, .int 3])
    have h1 := upd_same (H := H1) (a := p1) (o := .lst [.int 0, .int 1, .int 2, .int 3])
    have n1f := fe.ne np1
    have fa := fe.same t1
    generalize upd H1 p1 (.lst [.int 0, .int 1, .int 2, .int 3]) = Ha at t1 h1 fa ⊢
    refine ⟨5, rfl, 10, 9, rfl, rfl, ⟨by decide, by decide, by decide⟩, 10, 9, rfl, rfl, ⟨by decide, by decide, by decide⟩, _, rfl, by show 5 ≤ sizeLine; decide, fun p2 np2 => ?_⟩
    have t2 := same_new np2 (o := .lst [.int 0, .int 5, .int (-5), .int (10 ^ (9 : Int).toNat), .int (-(10 ^ (9 : Int).toNat))])
    have h2 := upd_same (H := Ha) (a := p2) (o := .lst [.int 0, .int 5, .int (-5), .int (10 ^ (9 : Int).toNat), .int (-(10 ^ (9 : Int).toNat))])
    have n2f := fa.ne np2
    have fb := fa.same t2
    generalize upd Ha p2 (.lst [.int 0, .int 5, .int (-5), .int (10 ^ (9 : Int).toNat), .int (-(10 ^ (9 : Int).toNat))]) = Hb at t2 h2 fb ⊢
    refine ⟨12, rfl, RgOk.of_le (by decide) (by decide) (by decide) (by decide), fun p3 np3 => ?_⟩
    have t3 := same_new np3 (o := .lst (rgV 0 12))
    have h3 := upd_same (H := Hb) (a := p3) (o := .lst (rgV 0 12))
    have n3f := fb.ne np3
    have fc := fb.same t3
    generalize upd Hb p3 (.lst (rgV 0 12)) = Hc at t3 h3 fc ⊢
    refine ⟨l3s, fun p4 np4 => ?_⟩
    have t4 := same_new np4 (o := .lst [.ref p1, .ref p2, .ref p3])
    have h4 := upd_same (H := Hc) (a := p4) (o := .lst [.ref p1, .ref p2, .ref p3])
    have n4f := fc.ne np4
    have fd4 := fc.same t4
    generalize upd Hc p4 (.lst [.ref p1, .ref p2, .ref p3]) = Hd at t4 h4 fd4 ⊢
    have t14 := t1.trans (t2.trans (t3.trans t4))
    have smd := sm1.trans t14
    have k1 := t4 _ _ (t3 _ _ (t2 _ _ h1))
    have k2 := t4 _ _ (t3 _ _ h2)
    have k3 := t4 _ _ h3
    refine ⟨f, p4, _, rfl, n4f, SqL.of h4, by simp, by simp, fd4, fun H2 j v hv c2 f2 => ?_⟩
    obtain ⟨sa, vs, rfl, nsa, hsa, lv, bv⟩ : ∃ (sa : Addr) (vs : List Int), v = .ref sa ∧ sa ≠ f ∧ H2 sa = some (.lst (vs.map V.int)) ∧ (0 < vs.length ∧ vs.length ≤ 12) ∧ ∀ n ∈ vs, n.natAbs ≤ 1000000000 := by
      match j, hv with
      | 0, hv =>
        cases hv
        exact ⟨p1, [0, 1, 2, 3], rfl, n1f, c2 _ _ n1f k1, by decide, by decide⟩
      | 1, hv =>
        cases hv
        exact ⟨p2, [0, 5, -5, 10 ^ (9 : Int).toNat, -(10 ^ (9 : Int).toNat)], rfl, n2f, c2 _ _ n2f k2, by decide, by decide⟩
      | 2, hv =>
        cases hv
        exact ⟨p3, [0, 1, 2, 3, 4, 5, 6, 7, 8, 9, 10, 11], rfl, n3f, c2 _ _ n3f k3, by decide, by decide⟩
      | _ + 3, hv => cases hv
    have sm2 : Same H H2 := c2.old hf0 smd
    clear t1 t2 t3 t4 t14 h1 h2 h3 h4 k1 k2 k3 n1f n2f n3f n4f fa fb fc fd4 c2 np1 np2 np3 np4 smd sm1 fe hv
    refine ⟨.ref f, rfl, f, 31, rfl, by decide, by decide, f2, fun H3 r c3 f3 z0 z1 => ⟨r, rfl, by omega, by omega, fun D nD => ?_⟩⟩
    have nDf := f3.ne nD
    refine lc_range (lo := 0) (n := r.toNat) (fun j Hz => Ch f H3 Hz ∧ FeedAt Hz f ∧ ∃ ms : List Int, ms.length = j ∧ Hz D = some (.lst (ms.map V.int)) ∧ ∀ n ∈ ms, n.natAbs ≤ 1000000000) ⟨Ch.new nD, f3.upd nDf, [], rfl, upd_same, fun _ h => nomatch h⟩ ?_ ?_
    · rintro j Hz hj ⟨cz, fz, ms, hl, hD, hb⟩
      refine ⟨rfl, iteT (B := True) ?_⟩
      refine ⟨.ref f, rfl, .ref sa, rfl, f, sa, _, rfl, nsa, SqL.of (cz _ _ nsa (c3 _ _ nsa hsa)), by rw [List.length_map]; exact lv.1, by rw [List.length_map]; omega, fz, fun Hw k w hw cw fw => ?_⟩
      obtain ⟨n, hn, rfl⟩ := int_at hw
      refine ⟨_, cw _ _ nDf hD, ?_, Ch.again nD (cz.trans cw), fw.upd nDf, ms ++ [n], by rw [List.length_append, hl]; rfl, by rw [upd_same, List.map_append]; rfl, fun y hy => ?_⟩
      · rw [List.length_map]
        exact small3000 (by omega)
      · rcases List.mem_append.mp hy with h | h
        · exact hb y h
        · rw [List.mem_singleton.mp h]
          exact bv n (List.mem_of_getElem? hn)
    rintro Hz ⟨cz, fz, ms, hl, hD, hb⟩
    have smz : Same H Hz := cz.old hf0 (c3.old hf0 sm2)
    refine ⟨D, ms, rfl, .inl (SqL.of hD), by omega, fun H4 p c rr xs cs rs s4 hp hc pa hr4 nr4 nc4 lc lr mr mc ee run nfr srt => ?_⟩
    obtain ⟨es, hrun, hperm⟩ := run
    have zr : ZZ rs := hrun.zz (tp_zz ms)
    have c4 : Ch f Hz H4 := .of_same s4
    have f4 := fz.same s4
    have sm4 := smz.trans s4
    have nrf : rr ≠ f := fz.ne nr4
    have ncf : c ≠ f := fz.ne nc4
    have brs : ∀ n ∈ rs, n.natAbs ≤ 1000000000 := fun n hn => hb n (mr n hn)
    have bcs : ∀ c ∈ cs, c.1.natAbs ≤ 1000000000 ∧ c.2.natAbs ≤ 1000000000 := fun c hc => ⟨hb _ (mc c hc).1, hb _ (mc c hc).2⟩
    have lrs : rs.length ≤ 31 := by omega
    have lcs : cs.length ≤ 31 := by omega
    refine ⟨p, _, rfl, SqT.of hp, rfl, .ref c, [.ref rr], rfl, .ref rr, [], rfl, rfl, ?_⟩
    refine ⟨.ref rr, rfl, rr, _, rfl, .inl (SqL.of hr4), _, 1, rfl, rfl, ?_⟩
    obtain ⟨rin, _⟩ := K31.run_in hrun (tp_zz ms)
    have gd : ∀ c ∈ cs, Gd rs c := fun c hc => by
      obtain ⟨r1, r2⟩ := rin c (hperm.mem_iff.mp hc)
      exact ⟨r1, inP_iff.mpr r2, (bcs c hc).1, (bcs c hc).2⟩
    clear rin bcs hrun hperm hb ee mr mc
    try simp only [List.set_cons_succ, List.set_cons_zero]
    refine ⟨_, rfl, ?_⟩
    refine join5 (R := ?R0) (Pj := fun Hy v => ∃ (c' : Addr) (xs' : List V) (cs' : List (Int × Int)), v = .ref c' ∧ c' ≠ f ∧ Ch f H4 Hy ∧ FeedAt Hy f ∧ Hy c' = some (.lst xs') ∧ PairsAt Hy xs' cs' ∧ cs'.length ≤ 34 ∧ ∀ c ∈ cs', Gd rs c) (fun ht key => ?ha1) (fun ht key => ?ha2) ?ha3
    case ha2 =>
      generalize hv : V.ref c = vc
      generalize hHq : H4 = Hq
      generalize r4 = q4
      generalize r7 = q7
      generalize r8 = q8
      generalize r9 = q9
      dsimp only [tNext]
      refine key Hq vc q4 q7 q8 q9 ?_
      rw [← hHq, ← hv]
      exact ⟨c, xs, cs, rfl, ncf, Ch.refl f H4, f4, hc, pa, by omega, gd⟩
    case ha1 =>
      have lr2 : 1 < rs.length := by
        have := of_decide_eq_true ht
        rw [List.length_map] at this
        omega
      have npos : 0 < rs.length := by omega
      refine ⟨.ref rr, rfl, rr, rs, rfl, .inl (SqL.of hr4), npos, fun mn m1 m2 => ⟨.ref rr, rfl, rr, rs, rfl, .inl (SqL.of hr4), npos, fun mx x1 x2 => ⟨.int mn, .int mx, rfl, ?_⟩⟩⟩
      have hlt : mn < mx := by
        obtain ⟨x, y, l, e⟩ : ∃ x y l, rs = x :: y :: l := match rs, lr2 with
          | x :: y :: l, _ => ⟨x, y, l, rfl⟩
        exact zz_two (e ▸ zr) (fun u hu => m2 u (e ▸ hu)) (fun u hu => x2 u (e ▸ hu))
      have bmn := brs mn m1
      have bmx := brs mx x1
      refine ⟨.ref f, rfl, f, 4, rfl, by decide, by decide, f4, fun H5 r c5 f5 r0 r1 => ⟨r, rfl, by omega, by omega, for_range (lo := 0) (n := r.toNat) (fun j σ Hx => Ch f H4 Hx ∧ FeedAt Hx f ∧ ∃ (c' : Addr) (xs' : List V) (cs' : List (Int × Int)), c' ≠ f ∧ Hx c' = some (.lst xs') ∧ PairsAt Hx xs' cs' ∧ cs'.length ≤ 31 + j ∧ (∀ c ∈ cs', Gd rs c) ∧ ∃ r4 r9 : Option V, σ = [some (.ref a), some (.int (0 + (i : Int))), some (.ref f), some (.ref sa), r4, some (.ref c'), some (.ref rr), some (.int mn), some (.int mx), r9, r10, r11, r12, r13, r14, r15, r16, r17, r18]) ⟨c5, f5, c, xs, cs, ncf, c5 _ _ ncf hc, PairsAt.chf c5 f4 pa, by omega, gd, _, _, rfl⟩ ?_ ?_⟩⟩
      · rintro j σ Hx hj ⟨cx, fx, c', xs', cs', nc', hc', pa', lc', gd', r4, r9, rfl⟩
        have lx' := pa'.length
        refine ⟨.int mn, rfl, .ref f, rfl, .int mx, rfl, .int mn, rfl, mx, mn, rfl, rfl, f, mx - mn, rfl, by omega, by omega, fx, fun Hy s cy fy s0 s1 => ⟨mn, s, rfl, rfl, ?_⟩⟩
        refine ⟨.ref c', rfl, .int (mn + s), rfl, .int (mn + s), rfl, mn + s, 1, rfl, rfl, .ref f, rfl, .int mx, rfl, .int (mn + s), rfl, mx, mn + s, rfl, rfl, f, mx - (mn + s), rfl, by omega, by omega, fy, fun Hz t cz fz t0 t1 => ⟨mn + s + 1, t, rfl, rfl, l2s, fun q nq => ⟨by show 1 ≤ sizeLine; decide, fun u nu => ?_⟩⟩⟩
        have pz := PairsAt.chf (cy.trans cz) fx pa'
        have hz' := cz _ _ nc' (cy _ _ nc' hc')
        have q1 := same_new nq (o := .tup [.int (mn + s), .int (mn + s + 1 + t)])
        have q2 := same_new nu (o := .lst [.ref q])
        have hq2 := q2 _ _ (upd_same (H := Hz) (a := q) (o := .tup [.int (mn + s), .int (mn + s + 1 + t)]))
        have hu2 := upd_same (H := upd Hz q (.tup [.int (mn + s), .int (mn + s + 1 + t)])) (a := u) (o := .lst [.ref q])
        have qA := q1.trans q2
        have fA := fz.same qA
        have cA := (cx.trans (cy.trans cz)).trans (.of_same qA)
        have hcA := qA _ _ hz'
        have paA := pz.same qA
        generalize upd (upd Hz q (.tup [.int (mn + s), .int (mn + s + 1 + t)])) u (.lst [.ref q]) = HA at hq2 hu2 fA cA hcA paA ⊢
        refine ⟨c', u, xs', [.ref q], rfl, rfl, hcA, hu2, Nat.le_of_lt (small3000 (by rw [List.length_cons, List.length_nil]; omega)), fun b nb => ?_⟩
        have qb := same_new nb (o := .lst (xs' ++ [.ref q]))
        refine ⟨cA.trans (.of_same qb), fA.same qb, b, xs' ++ [.ref q], cs' ++ [(mn + s, mn + s + 1 + t)], fA.ne nb, upd_same, pairs_app (r := (mn + s, mn + s + 1 + t)) (qb _ _ hq2) (paA.same qb), by rw [List.length_append, List.length_cons, List.length_nil]; omega, fun z hz => ?_, _, _, rfl⟩
        rcases List.mem_append.mp hz with h | h
        · exact gd' z h
        · rw [List.mem_singleton.mp h]
          exact ⟨by dsimp only; omega, inP_iff.mpr ⟨⟨mn, m1, by dsimp only; omega⟩, ⟨mx, x1, by dsimp only; omega⟩⟩, by dsimp only; omega, by dsimp only; omega⟩
      · rintro σ Hx ⟨cx, fx, c', xs', cs', nc', hc', pa', lc', gd', r4, r9, rfl⟩
        exact key Hx (.ref c') _ _ _ _ ⟨c', xs', cs', rfl, nc', cx, fx, hc', pa', by omega, gd'⟩
    case ha3 =>
    clear hc pa gd lcs lc hD smz f4
    rintro H5 vc o4 o7 o8 o9 ⟨c', xs', cs', rfl, nc', c5, f5, hc', pa', lc', gd'⟩
    have hr5 := c5 _ _ nrf hr4
    try simp only [List.set_cons_succ, List.set_cons_zero]
    refine ⟨.ref f, rfl, .ref c', rfl, f, c', xs', cs', rfl, f5, hc', pa', by omega, fun H6 d ys ds c6 f6 nd hd pad perm => ?_⟩
    have ndf := f5.ne nd
    have gds : ∀ c ∈ ds, Gd rs c := fun c hc => gd' c (perm.mem_iff.mp hc)
    have lds : ds.length ≤ 34 := by rw [perm.length_eq]; exact lc'
    have hr6 := c6 _ _ nrf hr5
    have sm6 : Same H H6 := c6.old hf0 (c5.old hf0 sm4)
    have hfl : ∃ l, H6 f = some (.lst l) := by
      obtain ⟨_, _, _, _, _, e⟩ := f6
      exact ⟨_, e⟩
    have dvD := dv_pairs hfl pad
    clear c5 f5 hc' pa' lc' gd' c6 perm hr5 hr4 sm4 nd nc'
    -- before
    have tz2 : Tz (.list [.list (dPairs ds), .list (dInts rs)]) := tz_two (it2_prs fun c hc => by have := (gds c hc).b1; have := (gds c hc).b2; omega) (it2_ints brs) (by rw [len_dPairs]; omega) (by rw [len_dInts]; omega)
    refine ⟨.ref d, rfl, .ref rr, rfl, l2s, fun l nl => ⟨f, .ref l, .list [.list (dPairs ds), .list (dInts rs)], rfl, .lst (f6.ne nl) upd_same ((DvAll.cons (.lst ndf hd dvD) (.cons (.lst nrf hr6 (dv_ints rs)) .nil)).same (same_new nl)), tz2, ?_⟩⟩
    generalize hsh : (PyData.list [.list (dPairs ds), .list (dInts rs)]).shown = sh
    have sl := same_new nl (o := .lst [.ref d, .ref rr])
    have hd := sl _ _ hd
    have hr6 := sl _ _ hr6
    have pad := pad.same sl
    have f7 := f6.same sl
    have sm7 := sm6.trans sl
    generalize upd H6 l (.lst [.ref d, .ref rr]) = H7 at hd hr6 pad f7 sm7 ⊢
    clear sl nl dvD hfl f6 sm6
    -- found, caught
    refine ⟨.ref d, rfl, .ref rr, rfl, rr, _, rfl, .inl ⟨SqL.of hr6, fun t nt => ?_⟩⟩
    have st := same_new nt (o := .tup (rs.map V.int))
    have ht := upd_same (H := H7) (a := t) (o := .tup (rs.map V.int))
    generalize upd H7 t (.tup (rs.map V.int)) = H8 at st ht ⊢
    refine ⟨d, t, ys, ds, rs, rfl, st _ _ hd, pad.same st, ht, zr, nfr, by omega, by omega, fun c hc => (gds c hc).lt, fun c r ho => (by rw [outs_none fun c hc => (gds c hc).ip] at ho; cases ho), fun _ H9 p9 q ms9 s9 np9 hp9 hq9 made => ?_⟩
    have s89 := st.trans s9
    have hd := s89 _ _ hd
    have hr9 := s89 _ _ hr6
    have pad := pad.same s89
    have f9 := f7.same s89
    have sm9 := sm7.trans s89
    have nqf : q ≠ f := fun z => by obtain ⟨_, _, _, _, _, e⟩ := f9; rw [z, e] at hq9; cases hq9
    have lm9 : ms9.length ≤ 100 := by have := made.2.2; omega
    have ez : tp ms9 = ms9 := zz_tp made.2.1
    clear s89 st s9 ht nt f7 sm7 hr6
    refine ⟨p9, _, rfl, SqT.of hp9, rfl, .ref q, [.non], rfl, .non, [], rfl, rfl, ?_⟩
    try simp only [List.set_cons_succ, List.set_cons_zero]
    -- first test
    refine ⟨.non, rfl, rfl, false, rfl, iteF ?_⟩
    refine ⟨.ref q, rfl, .ref q, .ty "tuple", _, .type "tuple", _, rfl, .ty "tuple", (Dv.tup nqf hq9 (dv_ints ms9)).ty, kit_t _, true, rfl, iteF ?_⟩
    refine ⟨.ref q, rfl, q, ms9, rfl, .inr (SqT.of hq9), by omega, fun H10 u s10 nu hu => ⟨.ref q, rfl, q, _, rfl, .inr (SqT.of (s10 _ _ hq9)), fun l nl => ?_⟩⟩
    have sl := same_new nl (o := .lst (ms9.map V.int))
    refine ⟨.list (dInts (tp ms9)), .list (dInts ms9), .lst (SqL.of (sl _ _ hu)) (dp_ints _), .lst (SqL.of upd_same) (dp_ints _), shaped_lst _, shaped_lst _, _, rfl, ?_⟩
    rw [ez, eqv_same (shaped_lst _)]
    refine iteF ?_
    have s10 := s10.trans sl
    generalize upd H10 l (.lst (ms9.map V.int)) = H10 at s10 ⊢
    have hd := s10 _ _ hd
    have hrA := s10 _ _ hr9
    have pad := pad.same s10
    have fA := f9.same s10
    have smA := sm9.trans s10
    have hqA := s10 _ _ hq9
    clear s10 sl nl hu nu f9 sm9 hr9 hq9 hp9 np9
    -- second test
    refine ⟨.ref q, rfl, q, ms9, rfl, .inr (SqT.of hqA), by omega, fun H11 p11 c11 r11 xs11 cs11 rs11 s11 hp11 hc11 pa11 hr11 _ _ _ _ _ _ _ run11 nf11 srt11 => ?_⟩
    obtain ⟨es11, run11, pm11⟩ := run11
    rw [ez] at run11
    obtain ⟨d9, pm9, run9⟩ := made.1
    obtain ⟨e1, e2⟩ := one_count made.2.1 run11 nf11 run9 nfr
    rw [e1] at hr11
    have pmA := pm11.trans (e2.trans pm9)
    clear run11 nf11 e1 e2 pm11
    refine ⟨.ref d, rfl, d, ys, QH.kOf H11, rfl, SqL.of (s11 _ _ hd), (QH.pairs_key (pad.same s11)).2, fun zs p12 h1 h2 np12 => ?_⟩
    obtain ⟨fs, pdf, permf, srtf⟩ := QH.sorted_out (pad.same s11) h1 h2
    have efs : cs11 = fs := sorted_same (pmA.trans permf.symm) srt11 srtf
    have s12 := same_new np12 (o := .lst zs)
    have h12 := upd_same (H := H11) (a := p12) (o := .lst zs)
    have pdf := pdf.same s12
    generalize upd H11 p12 (.lst zs) = H12 at s12 h12 pdf ⊢
    have sB := s11.trans s12
    refine ⟨.ref rr, rfl, l2s, fun u nu => ?_⟩
    have su := same_new nu (o := .tup [.ref p12, .ref rr])
    have suB := s12.trans su
    refine ⟨dLP cs11 rs, dLP fs rs, dp_lp (suB _ _ hp11) (suB _ _ hc11) (pa11.same suB) (suB _ _ hr11), dp_lp upd_same (su _ _ h12) (pdf.same su) (su _ _ (sB _ _ hrA)), shaped_lp _ _, shaped_lp _ _, _, rfl, ?_⟩
    rw [efs, eqv_same (shaped_lp _ _)]
    refine iteF ?_
    have sB := sB.trans su
    generalize upd H12 u (.tup [.ref p12, .ref rr]) = HB at sB ⊢
    have hd := sB _ _ hd
    have hrB := sB _ _ hrA
    have pad := pad.same sB
    have fB := fA.same sB
    have smB := smA.trans sB
    have hqB := sB _ _ hqA
    clear sB su suB s12 s11 h12 pdf hp11 hc11 pa11 hr11 np12 nu fA smA hrA hqA efs permf srtf srt11 pmA h1 h2
    refine ⟨.ref d, rfl, d, ys, rfl, .inl ⟨SqL.of hd, fun t1 nt1 => ⟨.ref rr, rfl, rr, _, rfl, .inl ⟨SqL.of (same_new nt1 _ _ hrB), fun t2 nt2 => ?_⟩⟩⟩⟩
    have u1 := same_new nt1 (o := .tup ys)
    have u2 := same_new nt2 (o := .tup (rs.map V.int))
    have uA := u1.trans u2
    have e1 := u2 _ _ (upd_same (H := HB) (a := t1) (o := .tup ys))
    have e2 := upd_same (H := upd HB t1 (.tup ys)) (a := t2) (o := .tup (rs.map V.int))
    have n1 := fB.ne nt1
    have n2 := (fB.same u1).ne nt2
    have fC := fB.same uA
    have padC := pad.same uA
    generalize upd (upd HB t1 (.tup ys)) t2 (.tup (rs.map V.int)) = HC at uA e1 e2 fC padC ⊢
    have hfl : ∃ l, HC f = some (.lst l) := by
      obtain ⟨_, _, _, _, _, e⟩ := fC
      exact ⟨_, e⟩
    refine ⟨.ref t1, .ref t2, f, .tuple (dPairs ds), .tuple (dInts rs), rfl, .tup n1 e1 (dv_pairs hfl padC), .tup n2 e2 (dv_ints rs), by show (dPairs ds).length ≤ 2000; rw [len_dPairs]; omega, by show (dInts rs).length ≤ 2000; rw [len_dInts]; omega, fun HD sD => ?_⟩
    rw [count_true gds zr nfr brs]
    refine ⟨true, rfl, iteF ?_⟩
    have sD := uA.trans sD
    have hd := sD _ _ hd
    have hrD := sD _ _ hrB
    have pad := pad.same sD
    have fD := fB.same sD
    have smD := smB.trans sD
    have hqD := sD _ _ hqB
    clear sD uA u1 u2 e1 e2 n1 n2 fC padC hfl nt1 nt2 fB smB hrB hqB
    -- counted
    refine ⟨rfl, .ref q, rfl, q, ms9, rfl, .inr (SqT.of hqD), by omega, fun HE x es2 ds2 rs2 sE nx ca run2 nf2 pm2 srt2 => ?_⟩
    rw [ez] at run2
    obtain ⟨e1, e2⟩ := one_count made.2.1 run2 nf2 run9 nfr
    rw [e1] at ca
    have pmA := pm2.trans (e2.trans pm9)
    clear run2 nf2 e1 e2 pm2
    have hd := sE _ _ hd
    have hrE := sE _ _ hrD
    have pad := pad.same sE
    have fE := fD.same sE
    have smE := smD.trans sE
    clear sE nx fD smD hrD hqD
    obtain ⟨dx, tx, hx⟩ : ∃ dx fs, HE x = some (.ins C dx fs) := let ⟨dx, _, _, _, h, _⟩ := ca; ⟨dx, _, h⟩
    refine ⟨.ref x, rfl, x, dx, tx, rfl, hx, x, ds2, rs, rfl, ca, fun t1 ys1 ht1 pa1 => ⟨t1, _, rfl, .inr (SqT.of ht1), fun l1 nl1 => ?_⟩⟩
    have v1 := same_new nl1 (o := .lst ys1)
    refine ⟨.ref x, rfl, x, dx, tx, rfl, v1 _ _ hx, x, ds2, rs, rfl, ca.same v1, fun t2 ht2 => ⟨t2, _, rfl, .inr (SqT.of ht2), fun l2 nl2 => ⟨l2s, fun u nu => ?_⟩⟩⟩
    have v2 := same_new nl2 (o := .lst (rs.map V.int))
    have v3 := same_new nu (o := .tup [.ref l1, .ref l2])
    have w2 := v2.trans v3
    have w1 := v1.trans w2
    have g1 := w2 _ _ (upd_same (H := HE) (a := l1) (o := .lst ys1))
    have g2 := v3 _ _ (upd_same (H := upd HE l1 (.lst ys1)) (a := l2) (o := .lst (rs.map V.int)))
    have g3 := upd_same (H := upd (upd HE l1 (.lst ys1)) l2 (.lst (rs.map V.int))) (a := u) (o := .tup [.ref l1, .ref l2])
    have pa1 := pa1.same w1
    generalize upd (upd (upd HE l1 (.lst ys1)) l2 (.lst (rs.map V.int))) u (.tup [.ref l1, .ref l2]) = HF at w1 g1 g2 g3 pa1 ⊢
    have hd := w1 _ _ hd
    have hrF := w1 _ _ hrE
    have pad := pad.same w1
    have fF := fE.same w1
    have smF := smE.trans w1
    clear v1 v2 v3 w2 w1 nl1 nl2 nu fE smE hrE hx ca ht1 ht2
    refine ⟨.ref d, rfl, d, ys, QH.kOf HF, rfl, SqL.of hd, (QH.pairs_key pad).2, fun zs p12 h1 h2 np12 => ?_⟩
    obtain ⟨fs, pdf, permf, srtf⟩ := QH.sorted_out pad h1 h2
    have efs : ds2 = fs := sorted_same (pmA.trans permf.symm) srt2 srtf
    have s12 := same_new np12 (o := .lst zs)
    have h12 := upd_same (H := HF) (a := p12) (o := .lst zs)
    have pdf := pdf.same s12
    generalize upd HF p12 (.lst zs) = H12 at s12 h12 pdf ⊢
    refine ⟨.ref rr, rfl, l2s, fun u nu => ?_⟩
    have su := same_new nu (o := .tup [.ref p12, .ref rr])
    have suB := s12.trans su
    refine ⟨dLP ds2 rs, dLP fs rs, dp_lp (suB _ _ g3) (suB _ _ g1) (pa1.same suB) (suB _ _ g2), dp_lp upd_same (su _ _ h12) (pdf.same su) (suB _ _ hrF), shaped_lp _ _, shaped_lp _ _, _, rfl, ?_⟩
    rw [efs, eqv_same (shaped_lp _ _)]
    refine iteF ?_
    generalize upd H12 u (.tup [.ref p12, .ref rr]) = HG at suB ⊢
    have hd := suB _ _ hd
    have hrG := suB _ _ hrF
    have pad := pad.same suB
    have fG := fF.same suB
    have smG := smF.trans suB
    clear suB su s12 h12 pdf g1 g2 g3 pa1 permf srtf efs srt2 pmA h1 h2 np12 nu fF smF hrF run9 pm9 made ez lm9 nqf
    try simp only [List.set_cons_succ, List.set_cons_zero]
    try dsimp only [tNext]
    -- low, high
    have l1s : 1 ≤ sizeLine := by decide
    have lrm : (rs.map V.int).length = rs.length := List.length_map _
    refine ⟨.ref rr, rfl, l1s, fun u nu => ?_⟩
    have su := same_new nu (o := .lst [.int 0])
    have hu := upd_same (H := HG) (a := u) (o := .lst [.int 0])
    generalize upd HG u (.lst [.int 0]) = HH at su hu ⊢
    refine ⟨rr, u, _, _, rfl, rfl, su _ _ hrG, hu, Nat.le_of_lt (small3000 (by rw [lrm, List.length_cons, List.length_nil]; omega)), fun v nv => ?_⟩
    have sv := same_new nv (o := .lst (rs.map V.int ++ [.int 0]))
    have hv0 : (upd HH v (.lst (rs.map V.int ++ [.int 0]))) v = some (.lst ((rs ++ [0]).map V.int)) := by rw [upd_same, List.map_append]; rfl
    generalize upd HH v (.lst (rs.map V.int ++ [.int 0])) = HI at sv hv0 ⊢
    refine ⟨v, rs ++ [0], rfl, .inl (SqL.of hv0), by rw [List.length_append, List.length_cons, List.length_nil]; omega, fun mn a1 a2 => ⟨mn, 1, rfl, rfl, ?_⟩⟩
    have sI := su.trans sv
    refine ⟨.ref rr, rfl, l1s, fun u2 nu2 => ?_⟩
    have su2 := same_new nu2 (o := .lst [.int 0])
    have hu2 := upd_same (H := HI) (a := u2) (o := .lst [.int 0])
    generalize upd HI u2 (.lst [.int 0]) = HJ at su2 hu2 ⊢
    have sJ := sI.trans su2
    refine ⟨rr, u2, _, _, rfl, rfl, sJ _ _ hrG, hu2, Nat.le_of_lt (small3000 (by rw [lrm, List.length_cons, List.length_nil]; omega)), fun v2 nv2 => ?_⟩
    have sv2 := same_new nv2 (o := .lst (rs.map V.int ++ [.int 0]))
    have hv2 : (upd HJ v2 (.lst (rs.map V.int ++ [.int 0]))) v2 = some (.lst ((rs ++ [0]).map V.int)) := by rw [upd_same, List.map_append]; rfl
    generalize upd HJ v2 (.lst (rs.map V.int ++ [.int 0])) = HK at sv2 hv2 ⊢
    have sK := sJ.trans sv2
    refine ⟨v2, rs ++ [0], rfl, .inl (SqL.of hv2), by rw [List.length_append, List.length_cons, List.length_nil]; omega, fun mx b1 b2 => ⟨mx, 1, rfl, rfl, .int (mn - 1), .int (mx + 1), rfl, ?_⟩⟩
    have m0 : (0 : Int) ∈ rs ++ [0] := List.mem_append_right _ List.mem_cons_self
    have bnd : ∀ z ∈ rs ++ [0], z.natAbs ≤ 1000000000 := fun z hz => by
      rcases List.mem_append.mp hz with h | h
      · exact brs z h
      · rw [List.mem_singleton.mp h]; decide
    have q1 : -1000000001 ≤ mn - 1 ∧ mn - 1 ≤ -1 := by have := bnd mn a1; have := a2 0 m0; omega
    have q2 : ∀ z ∈ rs, mn - 1 < z := fun z hz => by have := a2 z (List.mem_append_left _ hz); omega
    have q3 : mx + 1 ≤ 1000000001 ∧ 1 ≤ mx + 1 := by have := bnd mx b1; have := b2 0 m0; omega
    have q4 : ∀ z ∈ rs, z < mx + 1 := fun z hz => by have := b2 z (List.mem_append_left _ hz); omega
    generalize mn - 1 = lw at q1 q2 ⊢
    generalize mx + 1 = hg' at q3 q4 ⊢
    have hd := sK _ _ hd
    have hrK := sK _ _ hrG
    have pad := pad.same sK
    have fK := fG.same sK
    have smK := smG.trans sK
    clear sK sv2 hv2 nv2 sJ su2 hu2 nu2 sI sv hv0 nv su hu nu a1 a2 b1 b2 m0 bnd fG smG hrG
    try simp only [List.set_cons_succ, List.set_cons_zero]
    -- wide
    refine ⟨.int lw, rfl, l2s, fun t1 n1 => ?_⟩
    have s1 := same_new n1 (o := .tup [.int lw, .int 0])
    have e1 := upd_same (H := HK) (a := t1) (o := .tup [.int lw, .int 0])
    generalize upd HK t1 (.tup [.int lw, .int 0]) = H1' at s1 e1 ⊢
    refine ⟨.int hg', rfl, l2s, fun t2 n2 => ?_⟩
    have s2 := same_new n2 (o := .tup [.int 0, .int hg'])
    have e2 := upd_same (H := H1') (a := t2) (o := .tup [.int 0, .int hg'])
    generalize upd H1' t2 (.tup [.int 0, .int hg']) = H2' at s2 e2 ⊢
    have e1 := s2 _ _ e1
    have s2 := s1.trans s2
    refine ⟨.int lw, rfl, lw, 7, rfl, rfl, .int hg', rfl, hg', 7, rfl, rfl, l2s, fun t3 n3 => ?_⟩
    have s3 := same_new n3 (o := .tup [.int (lw - 7), .int (hg' + 7)])
    have e3 := upd_same (H := H2') (a := t3) (o := .tup [.int (lw - 7), .int (hg' + 7)])
    generalize upd H2' t3 (.tup [.int (lw - 7), .int (hg' + 7)]) = H3' at s3 e3 ⊢
    have e1 := s3 _ _ e1
    have e2 := s3 _ _ e2
    have s3 := s2.trans s3
    refine ⟨.int hg', rfl, .int hg', rfl, hg', 1, rfl, rfl, l2s, fun t4 n4 => ?_⟩
    have s4 := same_new n4 (o := .tup [.int hg', .int (hg' + 1)])
    have e4 := upd_same (H := H3') (a := t4) (o := .tup [.int hg', .int (hg' + 1)])
    generalize upd H3' t4 (.tup [.int hg', .int (hg' + 1)]) = H4' at s4 e4 ⊢
    have e1 := s4 _ _ e1
    have e2 := s4 _ _ e2
    have e3 := s4 _ _ e3
    have s4 := s3.trans s4
    refine ⟨.int lw, rfl, lw, 1, rfl, rfl, .int lw, rfl, l2s, fun t5 n5 => ?_⟩
    have s5 := same_new n5 (o := .tup [.int (lw - 1), .int lw])
    have e5 := upd_same (H := H4') (a := t5) (o := .tup [.int (lw - 1), .int lw])
    generalize upd H4' t5 (.tup [.int (lw - 1), .int lw]) = H5' at s5 e5 ⊢
    have e1 := s5 _ _ e1
    have e2 := s5 _ _ e2
    have e3 := s5 _ _ e3
    have e4 := s5 _ _ e4
    have s5 := s4.trans s5
    refine ⟨.int lw, rfl, lw, 9, rfl, rfl, .int lw, rfl, lw, 1, rfl, rfl, l2s, fun t6 n6 => ?_⟩
    have s6 := same_new n6 (o := .tup [.int (lw - 9), .int (lw + 1)])
    have e6 := upd_same (H := H5') (a := t6) (o := .tup [.int (lw - 9), .int (lw + 1)])
    generalize upd H5' t6 (.tup [.int (lw - 9), .int (lw + 1)]) = H6' at s6 e6 ⊢
    have e1 := s6 _ _ e1
    have e2 := s6 _ _ e2
    have e3 := s6 _ _ e3
    have e4 := s6 _ _ e4
    have e5 := s6 _ _ e5
    have s6 := s5.trans s6
    obtain ⟨w6, hw6⟩ : ∃ w6 : List (Int × Int), w6 = [(lw, 0), (0, hg'), (lw - 7, hg' + 7), (hg', hg' + 1), (lw - 1, lw), (lw - 9, lw + 1)] := ⟨_, rfl⟩
    have pw6 : PairsAt H6' [.ref t1, .ref t2, .ref t3, .ref t4, .ref t5, .ref t6] w6 := by
      rw [hw6]
      exact ⟨⟨t1, rfl, e1⟩, ⟨t2, rfl, e2⟩, ⟨t3, rfl, e3⟩, ⟨t4, rfl, e4⟩, ⟨t5, rfl, e5⟩, ⟨t6, rfl, e6⟩, trivial⟩
    have gw6 : ∀ c ∈ w6, c.1 < c.2 ∧ (c.1.natAbs ≤ 1000000010 ∧ c.2.natAbs ≤ 1000000010) ∧ inP rs c = false := fun c hc => by
      rw [hw6] at hc
      simp only [List.mem_cons, List.not_mem_nil, or_false] at hc
      rcases hc with rfl | rfl | rfl | rfl | rfl | rfl
      · exact ⟨by dsimp only; omega, by dsimp only; omega, inP_low q2⟩
      · exact ⟨by dsimp only; omega, by dsimp only; omega, inP_high q4⟩
      · exact ⟨by dsimp only; omega, by dsimp only; omega, inP_low fun z hz => by have := q2 z hz; dsimp only; omega⟩
      · exact ⟨by dsimp only; omega, by dsimp only; omega, inP_high fun z hz => by have := q4 z hz; dsimp only; omega⟩
      · exact ⟨by dsimp only; omega, by dsimp only; omega, inP_low fun z hz => by have := q2 z hz; dsimp only; omega⟩
      · exact ⟨by dsimp only; omega, by dsimp only; omega, inP_low fun z hz => by have := q2 z hz; dsimp only; omega⟩
    clear hw6 e1 e2 e3 e4 e5 e6 s1 s2 s3 s4 s5 n1 n2 n3 n4 n5 n6 q1 q2 q3 q4
    refine ⟨(show 6 ≤ sizeLine by decide), fun wd nwd => ?_⟩
    have sW := same_new nwd (o := .lst [.ref t1, .ref t2, .ref t3, .ref t4, .ref t5, .ref t6])
    have hwd := upd_same (H := H6') (a := wd) (o := .lst [.ref t1, .ref t2, .ref t3, .ref t4, .ref t5, .ref t6])
    have pw6 := pw6.same sW
    have sW := s6.trans sW
    have nwf := (fK.same s6).ne nwd
    generalize hwl : ([.ref t1, .ref t2, .ref t3, .ref t4, .ref t5, .ref t6] : List V) = wl at sW hwd pw6 ⊢
    have lwl : wl.length = 6 := by rw [← hwl]; rfl
    generalize upd H6' wd (.lst wl) = HL at sW hwd pw6 ⊢
    clear hwl s6 nwd
    have hd := sW _ _ hd
    have hrL := sW _ _ hrK
    have pad := pad.same sW
    have fL := fK.same sW
    have smL := smK.trans sW
    clear sW fK smK hrK
    -- more
    refine ⟨.ref d, rfl, d, _, rfl, .inl (SqL.of hd), fun m nm => ?_⟩
    have hm0 : H m = none := smL.free nm
    have sM := same_new nm (o := .lst ys)
    have hm := upd_same (H := HL) (a := m) (o := .lst ys)
    have nmf := fL.ne nm
    have ndm : d ≠ m := ne_of_none hd nm
    have nrm : rr ≠ m := ne_of_none hrL nm
    have nwm : wd ≠ m := ne_of_none hwd nm
    have hd := sM _ _ hd
    have hrM := sM _ _ hrL
    have hwd := sM _ _ hwd
    have pad := pad.same sM
    have pw6 := pw6.same sM
    have fM := fL.same sM
    have smM := smL.trans sM
    generalize upd HL m (.lst ys) = HM at sM hm hd hrM hwd pad pw6 fM smM ⊢
    clear sM nm fL smL hrL
    try simp only [List.set_cons_succ, List.set_cons_zero]
    refine ⟨.ref f, rfl, f, 3, rfl, by decide, by decide, fM, fun HN r cN fN r0 r1 => ⟨1, r, rfl, rfl, 1 + r, rfl, by omega, by omega, for_range (lo := 0) (n := (1 + r).toNat) (fun j σ Hx => (∀ b o, b ≠ f → b ≠ m → HM b = some o → Hx b = some o) ∧ FeedAt Hx f ∧ ∃ (zs : List V) (ws : List (Int × Int)), Hx m = some (.lst zs) ∧ PairsAt Hx zs ws ∧ ws.length ≤ 34 + j ∧ (∀ c ∈ ws, c.1 < c.2 ∧ (c.1.natAbs ≤ 1000000010 ∧ c.2.natAbs ≤ 1000000010)) ∧ (0 < j → ∃ c ∈ ws, inP rs c = false) ∧
      ∃ r1 r3 r4 r7 r8 r9 r11 r12 r13 r16 r17 r18 : Option V, σ = [some (.ref a), r1, some (.ref f), r3, r4, some (.ref d), some (.ref rr), r7, r8, r9, some (.str sh), r11, r12, r13, some (.ref wd), some (.ref m), r16, r17, r18])
      ⟨fun b o h1 _ e => cN b o h1 e, fN, ys, ds, cN _ _ nmf hm, PairsAt.chf cN fM pad, by omega, fun c hc => ⟨(gds c hc).lt, by have := (gds c hc).b1; have := (gds c hc).b2; omega⟩, fun z => absurd z (Nat.lt_irrefl 0), _, _, _, _, _, _, _, _, _, _, _, _, rfl⟩ ?_ ?_⟩⟩
    · rintro j σ Hx hj ⟨keep, fx, zs, ws, hmx, pw, lw', bw, ex, r1, r3, r4, r7, r8, r9, r11, r12, r13, r16, r17, r18, rfl⟩
      have lz := pw.length
      refine ⟨.ref m, rfl, .inl ⟨rfl, _, SqL.of hmx⟩, .ref f, rfl, .ref m, rfl, m, zs, rfl, .inl (SqL.of hmx), _, 1, rfl, rfl, f, _, rfl, by omega, by omega, fx, fun Hy k cy fy k0 k1 => ⟨.ref f, rfl, .ref wd, rfl, f, wd, wl, rfl, nwf, SqL.of (cy _ _ nwf (keep _ _ nwf nwm hwd)), by omega, by omega, fy, fun Hz jj v hv cz fz => ⟨m, zs, k, v, rfl, rfl, cz _ _ nmf (cy _ _ nmf hmx), small3000 (by omega), k0, by omega, ?_⟩⟩⟩
      obtain ⟨r', p', hr', rfl, hp'⟩ := pr_at pw6 hv
      have npf : p' ≠ f := fun z => by obtain ⟨_, _, _, _, _, e⟩ := fM; rw [z, e] at hp'; cases hp'
      have npm : p' ≠ m := fun z => by rw [z, hm] at hp'; cases hp'
      have hpz := cz _ _ npf (cy _ _ npf (keep _ _ npf npm hp'))
      have hmz := cz _ _ nmf (cy _ _ nmf hmx)
      have pwz := PairsAt.chf (cy.trans cz) fx pw
      obtain ⟨us, pu, lu, inu, ru⟩ := ins_pairs k.toNat (PairsAt.put (l2 := zs.take k.toNat ++ [V.ref p'] ++ zs.drop k.toNat) hmz pwz) (by rw [upd_ne npm]; exact hpz)
      have g6 := gw6 r' (List.mem_of_getElem? hr')
      refine ⟨fun b o h1 h2 e => by rw [upd_ne h2]; exact cz b o h1 (cy b o h1 (keep b o h1 h2 e)), fz.upd nmf, _, us, upd_same, pu, by omega, fun c hc => ?_, fun _ => ⟨r', ru, g6.2.2⟩, _, _, _, _, _, _, _, _, _, _, _, _, rfl⟩
      rcases inu c hc with h | rfl
      · exact bw c h
      · exact ⟨g6.1, g6.2.1⟩
    rintro σ Hx ⟨keep, fx, zs, ws, hmx, pw, lw', bw, ex, r1, r3, r4, r7, r8, r9, r11, r12, r13, r16, r17, r18, rfl⟩
    have smX : Same H Hx := fun b o e => keep b o (ne_of_none e hf0) (ne_of_none e hm0) (smM b o e)
    have hdX := keep _ _ ndf ndm hd
    have hrX := keep _ _ nrf nrm hrM
    have padX : PairsAt Hx ys ds := PairsAt.mp (fun p a b e => keep _ _ (fun z => by obtain ⟨_, _, _, _, _, e2⟩ := fM; rw [z, e2] at e; cases e) (fun z => by rw [z, hm] at e; cases e) e) pad
    obtain ⟨c0, rs0, ho⟩ := outs_some (ex (by omega))
    have lws : ws.length ≤ 40 := by omega
    clear keep ex lw' cN fN hd hrM hwd pad pw6 fM smM hm hm0 gw6 nwf nwm lwl ndm nrm
    -- seen
    have hfl : ∃ l, Hx f = some (.lst l) := by
      obtain ⟨_, _, _, _, _, e⟩ := fx
      exact ⟨_, e⟩
    have tzM : Tz (.list (dPairs ws)) := tz_lst (it2_prs fun c hc => (bw c hc).2) (by rw [len_dPairs]; omega)
    refine ⟨.ref m, rfl, f, .ref m, .list (dPairs ws), rfl, .lst nmf hmx (dv_pairs hfl pw), tzM, ?_⟩
    generalize hsh2 : (PyData.list (dPairs ws)).shown = sh2
    try simp only [List.set_cons_succ, List.set_cons_zero]
    try dsimp only [tSeq, tAsg, gName]
    -- due
    refine ⟨.ref m, rfl, m, rfl, ⟨zs, SqL.of hmx⟩, fun D nD => ?_⟩
    have lzw := pw.length
    refine lc_it (walk_list (xs := zs)) (fun i Hz => Same Hx Hz ∧ ∃ us : List V, Hz D = some (.lst us) ∧ us.length ≤ i ∧ PairsAt Hx us (outs (ws.take i) rs)) ⟨same_new nD, [], upd_same, Nat.le_refl _, trivial⟩ (fun i Hz _ z => SqL.of (z.1 _ _ hmx)) ?_ ?_
    · rintro i y Hz H2 hi ⟨sz, us, hD, hul, hue⟩ ⟨rfl, hy⟩
      obtain ⟨r, p, hr1, rfl, hp2⟩ := pr_at pw hy
      have hb2 := outs_take (ns := rs) hr1
      have hlt := (bw r (List.mem_of_getElem? hr1)).1
      have hpz := sz _ _ hp2
      have hrz := sz _ _ hrX
      have yes : inP rs r = false → (Same Hx (upd H2 D (.lst (us ++ [V.ref p]))) ∧ ∃ vs : List V, (upd H2 D (.lst (us ++ [V.ref p]))) D = some (.lst vs) ∧ vs.length ≤ i + 1 ∧ PairsAt Hx vs (outs (ws.take (i + 1)) rs)) := fun e => by
        rw [e, if_neg Bool.false_ne_true] at hb2
        exact ⟨same_again nD sz, us ++ [.ref p], upd_same, by rw [List.length_append, List.length_cons, List.length_nil]; omega, by rw [hb2]; exact pairs_app hp2 hue⟩
      refine ⟨rfl, .ref rr, rfl, rr, _, rfl, .inl (SqL.of hrz), _, 2, rfl, rfl, _, rfl, ?_⟩
      by_cases hlen : rs.length < 2
      · rw [decide_eq_true (show (((rs.map V.int).length : Int)) < 2 by rw [lrm]; omega)]
        refine iteT ⟨.ref p, rfl, us, hD, small3000 (by omega), ?_⟩
        exact yes (inP_small hlen hlt)
      rw [decide_eq_false (show ¬ (((rs.map V.int).length : Int)) < 2 by rw [lrm]; omega)]
      refine iteF ⟨.ref p, rfl, p, _, 0, .int r.1, rfl, rfl, SqT.of hpz, at_of (j := 0) rfl rfl, .ref rr, rfl, rr, rs, rfl, .inl (SqL.of hrz), by omega, fun mn a1 a2 => ⟨r.1, mn, rfl, rfl, _, rfl, ?_⟩⟩
      by_cases h1 : r.1 < mn
      · rw [decide_eq_true h1]
        refine iteT ⟨.ref p, rfl, us, hD, small3000 (by omega), ?_⟩
        exact yes (inP_low fun z hz => by have := a2 z hz; omega)
      rw [decide_eq_false h1]
      refine iteF ⟨.ref p, rfl, p, _, 1, .int r.2, rfl, rfl, SqT.of hpz, at_of (j := 1) rfl rfl, .ref rr, rfl, rr, rs, rfl, .inl (SqL.of hrz), by omega, fun mx b1 b2 => ⟨r.2, mx, rfl, rfl, _, rfl, ?_⟩⟩
      by_cases h2 : r.2 > mx
      · rw [decide_eq_true h2]
        refine iteT ⟨.ref p, rfl, us, hD, small3000 (by omega), ?_⟩
        exact yes (inP_high fun z hz => by have := b2 z hz; omega)
      rw [decide_eq_false h2]
      refine iteF ?_
      have e : inP rs r = true := inP_iff.mpr ⟨⟨mn, a1, by omega⟩, ⟨mx, b1, by omega⟩⟩
      rw [e, if_pos rfl, List.append_nil] at hb2
      exact ⟨sz, us, hD, by omega, by rw [hb2]; exact hue⟩
    rintro Hz ⟨sz, us, hD, hul, hue⟩
    rw [lzw, List.take_length, ho] at hue
    obtain ⟨y0, us', rfl⟩ : ∃ y us', us = y :: us' := by
      cases us with
      | nil => exact hue.elim
      | cons y us' => exact ⟨y, us', rfl⟩
    obtain ⟨⟨p0, rfl, hp0⟩, _⟩ := hue
    have hp0 := sz _ _ hp0
    have hmz := sz _ _ hmx
    have pwz := pw.same sz
    have hdz := sz _ _ hdX
    have hrz := sz _ _ hrX
    have padz := padX.same sz
    have fz := fx.same sz
    have smz2 := smX.trans sz
    clear sz nD fx smX padX hrX hdX pw hmx hfl
    -- last test
    refine ⟨.ref m, rfl, .ref rr, rfl, rr, _, rfl, .inl ⟨SqL.of hrz, fun t nt => ?_⟩⟩
    have st := same_new nt (o := .tup (rs.map V.int))
    have ht := upd_same (H := Hz) (a := t) (o := .tup (rs.map V.int))
    generalize upd Hz t (.tup (rs.map V.int)) = HO' at st ht ⊢
    refine ⟨m, t, zs, ws, rs, rfl, st _ _ hmz, pwz.same st, ht, zr, nfr, by omega, by omega, fun c hc => (bw c hc).1, fun c r ho2 HP p q' sP np hp hq' => ?_, fun ho2 => (by rw [ho] at ho2; cases ho2)⟩
    rw [ho] at ho2
    cases ho2
    have sP := st.trans sP
    refine ⟨p, _, 1, .ref q', rfl, rfl, SqT.of hp, at_of (j := 1) rfl rfl, .ref D, rfl, D, _, 0, .ref p0, rfl, rfl, SqL.of (sP _ _ hD), at_of (j := 0) rfl rfl, ?_⟩
    refine ⟨.tuple (dInts [c0.1, c0.2]), .tuple (dInts [c0.1, c0.2]), .tup (SqT.of hq') (dp_ints [c0.1, c0.2]), .tup (SqT.of (sP _ _ hp0)) (dp_ints [c0.1, c0.2]), shaped_tup _, shaped_tup _, _, rfl, ?_⟩
    rw [eqv_same (shaped_tup _)]
    refine iteF ?_
    have hdP := sP _ _ hdz
    have hrP := sP _ _ hrz
    have padP := padz.same sP
    have fP := fz.same sP
    have hflP : ∃ l, HP f = some (.lst l) := by
      obtain ⟨_, _, _, _, _, e⟩ := fP
      exact ⟨_, e⟩
    refine ⟨.ref d, rfl, .ref rr, rfl, l2s, fun l nl => ⟨f, .ref l, .list [.list (dPairs ds), .list (dInts rs)], rfl, .lst (fP.ne nl) upd_same ((DvAll.cons (.lst ndf hdP (dv_pairs hflP padP)) (.cons (.lst nrf hrP (dv_ints rs)) .nil)).same (same_new nl)), tz2, .str sh, rfl, rfl, _, rfl, iteNS (congrArg V.str hsh) ?_⟩⟩
    have sl := same_new nl (o := .lst [.ref d, .ref rr])
    generalize upd HP l (.lst [.ref d, .ref rr]) = HQ at sl ⊢
    have sQ := sP.trans sl
    have fQ := fz.same sQ
    have hflQ : ∃ l, HQ f = some (.lst l) := by
      obtain ⟨_, _, _, _, _, e⟩ := fQ
      exact ⟨_, e⟩
    refine ⟨.ref m, rfl, f, .ref m, .list (dPairs ws), rfl, .lst nmf (sQ _ _ hmz) (dv_pairs hflQ (pwz.same sQ)), tzM, .str sh2, rfl, rfl, _, rfl, iteNS (congrArg V.str hsh2) ?_⟩
    exact ⟨smz2.trans sQ, _, _, _, _, _, _, _, _, _, _, _, _, _, _, _, _, _, _, rfl⟩
end
end L1L

set_option pp.maxSteps 300
namespace L1E0
open PySem PySem.Spec PyProof.Rows L2 KA KD PH PM PA PB PC RM RN RC RE RS QE QF QG QH DV M3N GU K31 L1O L1R L1X L1L
theorem all_mk {l : PySem.W.OpenLaw} {w : World} {K : PySem.W.Frag} {h : Heap} {mg : Str → Option Value} {fa fNU fRD fRG fCO fRO fTP fIL fBT fSW fMT fPB fCN fAL fOU fIS fIC fLW fRF fWC fFE fTA fPI fTN fRN fHS fMY fKT fMD fMX C fIN pO fOF p1 fPC p2 fPR_ fLAW : Addr} {CE CW fEI ccE cdaE NE : Addr} {odE anE cldE cddE ddE : Option Addr} {slE cslE ccsE : Array (Option Value)} {vsE : Array Value} {kVE dcE pmE ctE ocE clE cclE : Value} {fileE : Str} {tfE : Tok} {nmE qE : Str} {bsE subE : List Value} {snE : List Str} {abE : Bool} {colE : Option Bool} {m0E m1E m2E m3E m5E : Option Value} (X : K.In h) (G : h.Ns mainGlobals mg) (hfa : mg "law" = some (.ref fa))
    {odNU anNU odRD anRD odRG anRG odCO anCO odRO anRO odTP anTP odIL anIL odBT anBT odSW anSW odMT anMT odPB anPB odCN anCN odAL anAL odOU anOU odIS anIS odIC anIC odLW anLW odRF anRF odWC anWC odFE anFE odTA anTA odPI anPI odTN anTN odRN anRN odHS anHS odMY anMY odKT anKT odMD anMD odMX anMX odIN anIN odOF anOF odPC anPC odPR_ anPR_ odLAW anLAW : Option Addr} {slNU slRD slRG slCO slRO slTP slIL slBT slSW slMT slPB slCN slAL slOU slIS slIC slLW slRF slWC slFE slTA slPI slTN slRN slHS slMY slKT slMD slMX slIN slOF slPC slPR_ slLAW : Array (Option Value)} {ocNU dcNU pmNU cdNU ctNU kVNU ocRD dcRD pmRD cdRD ctRD kVRD ocRG dcRG pmRG cdRG ctRG kVRG ocCO dcCO pmCO cdCO ctCO kVCO ocRO dcRO pmRO cdRO ctRO kVRO ocTP dcTP pmTP cdTP ctTP kVTP ocIL dcIL pmIL cdIL ctIL kVIL ocBT dcBT pmBT cdBT ctBT kVBT ocSW dcSW pmSW cdSW ctSW kVSW ocMT dcMT pmMT cdMT ctMT kVMT ocPB dcPB pmPB cdPB ctPB kVPB ocCN dcCN pmCN cdCN ctCN kVCN ocAL dcAL pmAL cdAL ctAL kVAL ocOU dcOU pmOU cdOU ctOU kVOU ocIS dcIS pmIS cdIS ctIS kVIS ocIC dcIC pmIC cdIC ctIC kVIC ocLW dcLW pmLW cdLW ctLW kVLW ocRF dcRF pmRF cdRF ctRF kVRF ocWC dcWC pmWC cdWC ctWC kVWC ocFE dcFE pmFE cdFE ctFE kVFE ocTA dcTA pmTA cdTA ctTA kVTA ocPI dcPI pmPI cdPI ctPI kVPI ocTN dcTN pmTN cdTN ctTN kVTN ocRN dcRN pmRN cdRN ctRN kVRN ocHS dcHS pmHS cdHS ctHS kVHS ocMY dcMY pmMY cdMY ctMY kVMY ocKT dcKT pmKT cdKT ctKT kVKT ocMD dcMD pmMD cdMD ctMD kVMD ocMX dcMX pmMX cdMX ctMX kVMX ocIN dcIN pmIN cdIN ctIN kVIN ocOF dcOF pmOF cdOF ctOF kVOF ocPC dcPC pmPC cdPC ctPC kVPC ocPR_ dcPR_ pmPR_ cdPR_ ctPR_ kVPR_ vgLIM ocLAW dcLAW pmLAW cdLAW ctLAW kVLAW : Value} {rOF rPC rPR_ : List Value}
    (aNU : PySem.W.nsIn K mainGlobals "is_number" = some (some (.ref fNU)))
    (lNU : K.lookup fNU = some ⟨ocNU, odNU, .func (PySem.W.fnOf "is_number" "is_number" (defArgs M3N.sNu) (defBody M3N.sNu) (defScope M3N.sNu) .none kVNU dcNU pmNU anNU cdNU ctNU), slNU⟩)
    (cNU : PySem.W.codeIn K cdNU "is_number" = true)
    (kNU : PySem.W.keepIn K (.ref fNU) = true)
    (aRD : PySem.W.nsIn K mainGlobals "is_reading" = some (some (.ref fRD)))
    (lRD : K.lookup fRD = some ⟨ocRD, odRD, .func (PySem.W.fnOf "is_reading" "is_reading" (defArgs M3N.sRd) (defBody M3N.sRd) (defScope M3N.sRd) .none kVRD dcRD pmRD anRD cdRD ctRD), slRD⟩)
    (cRD : PySem.W.codeIn K cdRD "is_reading" = true)
    (kRD : PySem.W.keepIn K (.ref fRD) = true)
    (aRG : PySem.W.nsIn K mainGlobals "is_range" = some (some (.ref fRG)))
    (lRG : K.lookup fRG = some ⟨ocRG, odRG, .func (PySem.W.fnOf "is_range" "is_range" (defArgs M3N.sRg) (defBody M3N.sRg) (defScope M3N.sRg) .none kVRG dcRG pmRG anRG cdRG ctRG), slRG⟩)
    (cRG : PySem.W.codeIn K cdRG "is_range" = true)
    (kRG : PySem.W.keepIn K (.ref fRG) = true)
    (aCO : PySem.W.nsIn K mainGlobals "contains" = some (some (.ref fCO)))
    (lCO : K.lookup fCO = some ⟨ocCO, odCO, .func (PySem.W.fnOf "contains" "contains" (defArgs sCont) (defBody sCont) (defScope sCont) .none kVCO dcCO pmCO anCO cdCO ctCO), slCO⟩)
    (cCO : PySem.W.codeIn K cdCO "contains" = true)
    (kCO : PySem.W.keepIn K (.ref fCO) = true)
    (aRO : PySem.W.nsIn K mainGlobals "range_of" = some (some (.ref fRO)))
    (lRO : K.lookup fRO = some ⟨ocRO, odRO, .func (PySem.W.fnOf "range_of" "range_of" (defArgs PA.sRng) (defBody PA.sRng) (defScope PA.sRng) .none kVRO dcRO pmRO anRO cdRO ctRO), slRO⟩)
    (cRO : PySem.W.codeIn K cdRO "range_of" = true)
    (kRO : PySem.W.keepIn K (.ref fRO) = true)
    (aTP : PySem.W.nsIn K mainGlobals "turning_points" = some (some (.ref fTP)))
    (lTP : K.lookup fTP = some ⟨ocTP, odTP, .func (PySem.W.fnOf "turning_points" "turning_points" (defArgs sTP) (defBody sTP) (defScope sTP) .none kVTP dcTP pmTP anTP cdTP ctTP), slTP⟩)
    (cTP : PySem.W.codeIn K cdTP "turning_points" = true)
    (kTP : PySem.W.keepIn K (.ref fTP) = true)
    (aIL : PySem.W.nsIn K mainGlobals "is_left_out" = some (some (.ref fIL)))
    (lIL : K.lookup fIL = some ⟨ocIL, odIL, .func (PySem.W.fnOf "is_left_out" "is_left_out" (defArgs sLO) (defBody sLO) (defScope sLO) .none kVIL dcIL pmIL anIL cdIL ctIL), slIL⟩)
    (cIL : PySem.W.codeIn K cdIL "is_left_out" = true)
    (kIL : PySem.W.keepIn K (.ref fIL) = true)
    (aBT : PySem.W.nsIn K mainGlobals "_lies_between" = some (some (.ref fBT)))
    (lBT : K.lookup fBT = some ⟨ocBT, odBT, .func (PySem.W.fnOf "_lies_between" "_lies_between" (defArgs sBtw) (defBody sBtw) (defScope sBtw) .none kVBT dcBT pmBT anBT cdBT ctBT), slBT⟩)
    (cBT : PySem.W.codeIn K cdBT "_lies_between" = true)
    (kBT : PySem.W.keepIn K (.ref fBT) = true)
    (aSW : PySem.W.nsIn K mainGlobals "swings" = some (some (.ref fSW)))
    (lSW : K.lookup fSW = some ⟨ocSW, odSW, .func (PySem.W.fnOf "swings" "swings" (defArgs sSw) (defBody sSw) (defScope sSw) .none kVSW dcSW pmSW anSW cdSW ctSW), slSW⟩)
    (cSW : PySem.W.codeIn K cdSW "swings" = true)
    (kSW : PySem.W.keepIn K (.ref fSW) = true)
    (aMT : PySem.W.nsIn K mainGlobals "_may_be_taken" = some (some (.ref fMT)))
    (lMT : K.lookup fMT = some ⟨ocMT, odMT, .func (PySem.W.fnOf "_may_be_taken" "_may_be_taken" (defArgs sMT) (defBody sMT) (defScope sMT) .none kVMT dcMT pmMT anMT cdMT ctMT), slMT⟩)
    (cMT : PySem.W.codeIn K cdMT "_may_be_taken" = true)
    (kMT : PySem.W.keepIn K (.ref fMT) = true)
    (aPB : PySem.W.nsIn K mainGlobals "put_behind" = some (some (.ref fPB)))
    (lPB : K.lookup fPB = some ⟨ocPB, odPB, .func (PySem.W.fnOf "put_behind" "put_behind" (defArgs sPB) (defBody sPB) (defScope sPB) .none kVPB dcPB pmPB anPB cdPB ctPB), slPB⟩)
    (cPB : PySem.W.codeIn K cdPB "put_behind" = true)
    (kPB : PySem.W.keepIn K (.ref fPB) = true)
    (aCN : PySem.W.nsIn K mainGlobals "_counted" = some (some (.ref fCN)))
    (lCN : K.lookup fCN = some ⟨ocCN, odCN, .func (PySem.W.fnOf "_counted" "_counted" (defArgs sCo) (defBody sCo) (defScope sCo) .none kVCN dcCN pmCN anCN cdCN ctCN), slCN⟩)
    (cCN : PySem.W.codeIn K cdCN "_counted" = true)
    (kCN : PySem.W.keepIn K (.ref fCN) = true)
    (aAL : PySem.W.nsIn K mainGlobals "are_left" = some (some (.ref fAL)))
    (lAL : K.lookup fAL = some ⟨ocAL, odAL, .func (PySem.W.fnOf "are_left" "are_left" (defArgs sAl) (defBody sAl) (defScope sAl) .none kVAL dcAL pmAL anAL cdAL ctAL), slAL⟩)
    (cAL : PySem.W.codeIn K cdAL "are_left" = true)
    (kAL : PySem.W.keepIn K (.ref fAL) = true)
    (aOU : PySem.W.nsIn K mainGlobals "cycles_outside" = some (some (.ref fOU)))
    (lOU : K.lookup fOU = some ⟨ocOU, odOU, .func (PySem.W.fnOf "cycles_outside" "cycles_outside" (defArgs sCO2) (defBody sCO2) (defScope sCO2) .none kVOU dcOU pmOU anOU cdOU ctOU), slOU⟩)
    (cOU : PySem.W.codeIn K cdOU "cycles_outside" = true)
    (kOU : PySem.W.keepIn K (.ref fOU) = true)
    (aIS : PySem.W.nsIn K mainGlobals "is_rest" = some (some (.ref fIS)))
    (lIS : K.lookup fIS = some ⟨ocIS, odIS, .func (PySem.W.fnOf "is_rest" "is_rest" (defArgs sIR2) (defBody sIR2) (defScope sIR2) .none kVIS dcIS pmIS anIS cdIS ctIS), slIS⟩)
    (cIS : PySem.W.codeIn K cdIS "is_rest" = true)
    (kIS : PySem.W.keepIn K (.ref fIS) = true)
    (aIC : PySem.W.nsIn K mainGlobals "is_count" = some (some (.ref fIC)))
    (lIC : K.lookup fIC = some ⟨ocIC, odIC, .func (PySem.W.fnOf "is_count" "is_count" (defArgs sIC) (defBody sIC) (defScope sIC) .none kVIC dcIC pmIC anIC cdIC ctIC), slIC⟩)
    (cIC : PySem.W.codeIn K cdIC "is_count" = true)
    (kIC : PySem.W.keepIn K (.ref fIC) = true)
    (aLW : PySem.W.nsIn K mainGlobals "load_with" = some (some (.ref fLW)))
    (lLW : K.lookup fLW = some ⟨ocLW, odLW, .func (PySem.W.fnOf "load_with" "load_with" (defArgs sLW) (defBody sLW) (defScope sLW) .none kVLW dcLW pmLW anLW cdLW ctLW), slLW⟩)
    (cLW : PySem.W.codeIn K cdLW "load_with" = true)
    (kLW : PySem.W.keepIn K (.ref fLW) = true)
    (aRF : PySem.W.nsIn K mainGlobals "_refuse_outside" = some (some (.ref fRF)))
    (lRF : K.lookup fRF = some ⟨ocRF, odRF, .func (PySem.W.fnOf "_refuse_outside" "_refuse_outside" (defArgs sRf) (defBody sRf) (defScope sRf) .none kVRF dcRF pmRF anRF cdRF ctRF), slRF⟩)
    (cRF : PySem.W.codeIn K cdRF "_refuse_outside" = true)
    (kRF : PySem.W.keepIn K (.ref fRF) = true)
    (aWC : PySem.W.nsIn K mainGlobals "_with_cycles" = some (some (.ref fWC)))
    (lWC : K.lookup fWC = some ⟨ocWC, odWC, .func (PySem.W.fnOf "_with_cycles" "_with_cycles" (defArgs sWC) (defBody sWC) (defScope sWC) .none kVWC dcWC pmWC anWC cdWC ctWC), slWC⟩)
    (cWC : PySem.W.codeIn K cdWC "_with_cycles" = true)
    (kWC : PySem.W.keepIn K (.ref fWC) = true)
    (aFE : PySem.W.nsIn K mainGlobals "_law_feed" = some (some (.ref fFE)))
    (lFE : K.lookup fFE = some ⟨ocFE, odFE, .func (PySem.W.fnOf "_law_feed" "_law_feed" (defArgs sFeed) (defBody sFeed) (defScope sFeed) .none kVFE dcFE pmFE anFE cdFE ctFE), slFE⟩)
    (cFE : PySem.W.codeIn K cdFE "_law_feed" = true)
    (kFE : PySem.W.keepIn K (.ref fFE) = true)
    (aTA : PySem.W.nsIn K mainGlobals "_law_take" = some (some (.ref fTA)))
    (lTA : K.lookup fTA = some ⟨ocTA, odTA, .func (PySem.W.fnOf "_law_take" "_law_take" (defArgs sTake) (defBody sTake) (defScope sTake) .none kVTA dcTA pmTA anTA cdTA ctTA), slTA⟩)
    (cTA : PySem.W.codeIn K cdTA "_law_take" = true)
    (kTA : PySem.W.keepIn K (.ref fTA) = true)
    (aPI : PySem.W.nsIn K mainGlobals "_law_pick" = some (some (.ref fPI)))
    (lPI : K.lookup fPI = some ⟨ocPI, odPI, .func (PySem.W.fnOf "_law_pick" "_law_pick" (defArgs sPick) (defBody sPick) (defScope sPick) .none kVPI dcPI pmPI anPI cdPI ctPI), slPI⟩)
    (cPI : PySem.W.codeIn K cdPI "_law_pick" = true)
    (kPI : PySem.W.keepIn K (.ref fPI) = true)
    (aTN : PySem.W.nsIn K mainGlobals "_law_turns" = some (some (.ref fTN)))
    (lTN : K.lookup fTN = some ⟨ocTN, odTN, .func (PySem.W.fnOf "_law_turns" "_law_turns" (defArgs M3W.sTn) (defBody M3W.sTn) (defScope M3W.sTn) .none kVTN dcTN pmTN anTN cdTN ctTN), slTN⟩)
    (cTN : PySem.W.codeIn K cdTN "_law_turns" = true)
    (kTN : PySem.W.keepIn K (.ref fTN) = true)
    (aRN : PySem.W.nsIn K mainGlobals "_law_range" = some (some (.ref fRN)))
    (lRN : K.lookup fRN = some ⟨ocRN, odRN, .func (PySem.W.fnOf "_law_range" "_law_range" (defArgs M3W.sRn) (defBody M3W.sRn) (defScope M3W.sRn) .none kVRN dcRN pmRN anRN cdRN ctRN), slRN⟩)
    (cRN : PySem.W.codeIn K cdRN "_law_range" = true)
    (kRN : PySem.W.keepIn K (.ref fRN) = true)
    (aHS : PySem.W.nsIn K mainGlobals "_law_has" = some (some (.ref fHS)))
    (lHS : K.lookup fHS = some ⟨ocHS, odHS, .func (PySem.W.fnOf "_law_has" "_law_has" (defArgs M3W.sHs) (defBody M3W.sHs) (defScope M3W.sHs) .none kVHS dcHS pmHS anHS cdHS ctHS), slHS⟩)
    (cHS : PySem.W.codeIn K cdHS "_law_has" = true)
    (kHS : PySem.W.keepIn K (.ref fHS) = true)
    (aMY : PySem.W.nsIn K mainGlobals "_law_may_take" = some (some (.ref fMY)))
    (lMY : K.lookup fMY = some ⟨ocMY, odMY, .func (PySem.W.fnOf "_law_may_take" "_law_may_take" (defArgs M3W.sMy) (defBody M3W.sMy) (defScope M3W.sMy) .none kVMY dcMY pmMY anMY cdMY ctMY), slMY⟩)
    (cMY : PySem.W.codeIn K cdMY "_law_may_take" = true)
    (kMY : PySem.W.keepIn K (.ref fMY) = true)
    (aKT : PySem.W.nsIn K mainGlobals "_law_count" = some (some (.ref fKT)))
    (lKT : K.lookup fKT = some ⟨ocKT, odKT, .func (PySem.W.fnOf "_law_count" "_law_count" (defArgs M3W.sCt) (defBody M3W.sCt) (defScope M3W.sCt) .none kVKT dcKT pmKT anKT cdKT ctKT), slKT⟩)
    (cKT : PySem.W.codeIn K cdKT "_law_count" = true)
    (kKT : PySem.W.keepIn K (.ref fKT) = true)
    (aMD : PySem.W.nsIn K mainGlobals "_law_made" = some (some (.ref fMD)))
    (lMD : K.lookup fMD = some ⟨ocMD, odMD, .func (PySem.W.fnOf "_law_made" "_law_made" (defArgs L1R.sMd) (defBody L1R.sMd) (defScope L1R.sMd) .none kVMD dcMD pmMD anMD cdMD ctMD), slMD⟩)
    (cMD : PySem.W.codeIn K cdMD "_law_made" = true)
    (kMD : PySem.W.keepIn K (.ref fMD) = true)
    (aMX : PySem.W.nsIn K mainGlobals "_law_mixed" = some (some (.ref fMX)))
    (lMX : K.lookup fMX = some ⟨ocMX, odMX, .func (PySem.W.fnOf "_law_mixed" "_law_mixed" (defArgs L1X.sMx) (defBody L1X.sMx) (defScope L1X.sMx) .none kVMX dcMX pmMX anMX cdMX ctMX), slMX⟩)
    (cMX : PySem.W.codeIn K cdMX "_law_mixed" = true)
    (kMX : PySem.W.keepIn K (.ref fMX) = true)
    (aC : PySem.W.nsIn K mainGlobals "Count" = some (some (.ref C)))
    (pg : PySem.W.plainGet K C Str.empty = true)
    (hd : PySem.W.hasDictIn K C = true)
    (po : PySem.W.plainOver K C = true)
    (sa : PySem.W.findIn K (.ref C) "__setattr__" = some (some (.builtin "object.__setattr__")))
    (na0 : PySem.W.findIn K (.ref C) "_cycles" = some none)
    (na1 : PySem.W.findIn K (.ref C) "_rest" = some none)
    (mk : PySem.W.makesIn K C = true)
    (kc : PySem.W.keepIn K (.ref C) = true)
    (aI : PySem.W.findIn K (.ref C) "__init__" = some (some (.ref fIN)))
    (iI : PySem.W.isFn K (.ref fIN) = true)
    (lIN : K.lookup fIN = some ⟨ocIN, odIN, .func (PySem.W.fnOf "__init__" "Count.__init__" (defArgs sInit) (defBody sInit) (defScope sInit) .none kVIN dcIN pmIN anIN cdIN ctIN), slIN⟩)
    (cIN : PySem.W.codeIn K cdIN "Count.__init__" = true)
    (kIN : PySem.W.keepIn K (.ref fIN) = true)
    (rdOF : PySem.W.readsIn K C (.type "type") = true)
    (gaOF : PySem.W.specialIn K (.ref C) "__getattribute__" = some (some (.builtin "type.__getattribute__")))
    (aOF : PySem.W.findCls K (.ref C) (.type "type") "of" = some (.get (.builtin "classmethod.__get__") (.ref pO) .none (.ref C)))
    (rcOF : PySem.W.recIn K pO "classmethod" = some (.ref fOF :: rOF))
    (fiOF : PySem.W.fnIn K fOF = true)
    (lOF : K.lookup fOF = some ⟨ocOF, odOF, .func (PySem.W.fnOf "of" "Count.of" (defArgs sOf) (defBody sOf) (defScope sOf) .none kVOF dcOF pmOF anOF cdOF ctOF), slOF⟩)
    (cOF : PySem.W.codeIn K cdOF "Count.of" = true)
    (kOF : PySem.W.keepIn K (.ref fOF) = true)
    (aPPC : PySem.W.findIn K (.ref C) "cycles" = some (some (.ref p1)))
    (gPPC : PySem.W.specialIn K (.ref p1) "__get__" = some (some (.builtin "property.__get__")))
    (tPPC : PySem.W.takesIn K (.ref p1) = some true)
    (rcPPC : PySem.W.recIn K p1 "property" = some (.ref fPC :: rPC))
    (lPC : K.lookup fPC = some ⟨ocPC, odPC, .func (PySem.W.fnOf "cycles" "Count.cycles" (defArgs sPC) (defBody sPC) (defScope sPC) .none kVPC dcPC pmPC anPC cdPC ctPC), slPC⟩)
    (cPC : PySem.W.codeIn K cdPC "Count.cycles" = true)
    (kPC : PySem.W.keepIn K (.ref fPC) = true)
    (aPPR_ : PySem.W.findIn K (.ref C) "rest" = some (some (.ref p2)))
    (gPPR_ : PySem.W.specialIn K (.ref p2) "__get__" = some (some (.builtin "property.__get__")))
    (tPPR_ : PySem.W.takesIn K (.ref p2) = some true)
    (rcPPR_ : PySem.W.recIn K p2 "property" = some (.ref fPR_ :: rPR_))
    (lPR_ : K.lookup fPR_ = some ⟨ocPR_, odPR_, .func (PySem.W.fnOf "rest" "Count.rest" (defArgs sPR) (defBody sPR) (defScope sPR) .none kVPR_ dcPR_ pmPR_ anPR_ cdPR_ ctPR_), slPR_⟩)
    (cPR_ : PySem.W.codeIn K cdPR_ "Count.rest" = true)
    (kPR_ : PySem.W.keepIn K (.ref fPR_) = true)
    (z1 : PySem.W.nsIn K mainGlobals "len" = some none)
    (z2 : PySem.W.nsIn K mainGlobals "zip" = some none)
    (z3 : PySem.W.nsIn K mainGlobals "max" = some none)
    (z4 : PySem.W.nsIn K mainGlobals "min" = some none)
    (z5 : PySem.W.nsIn K mainGlobals "abs" = some none)
    (z6 : PySem.W.nsIn K mainGlobals "range" = some none)
    (z7 : PySem.W.nsIn K mainGlobals "sorted" = some none)
    (z8 : PySem.W.nsIn K mainGlobals "tuple" = some none)
    (z9 : PySem.W.nsIn K mainGlobals "list" = some none)
    (z10 : PySem.W.nsIn K mainGlobals "isinstance" = some none)
    (z11 : PySem.W.nsIn K mainGlobals "repr" = some none)
    (z12 : PySem.W.nsIn K mainGlobals "int" = some none)
    (z13 : PySem.W.nsIn K mainGlobals "bool" = some none)
    (z14 : PySem.W.nsIn K mainGlobals "enumerate" = some none)
    (z15 : PySem.W.nsIn K mainGlobals "all" = some none)
    (agLIM : PySem.W.nsIn K mainGlobals "LIMIT" = some (some vgLIM))
    (rgLIM : RelV (.int 1000000000) vgLIM)
    (aNLc : PySem.W.nsIn K mainGlobals "NoLoad" = some (some (.ref CE)))
    (xL : K.lookup CE = some (excClassObj nmE qE CE NE bsE [.ref CW, .type "ValueError", .type "Exception", .type "BaseException", .type "object"] true snE subE abE colE ddE m0E m1E m2E m3E m5E "ValueError.__new__"))
    (saE : PySem.W.findIn K (.ref CE) "__setattr__" = some (some (.builtin "object.__setattr__")))
    (exE : PySem.W.subIn K (.ref CE) (.type "BaseException") = some true)
    (tyE : PySem.W.typeIn K (.ref CE) = some (.type "type"))
    (kE : PySem.W.keepIn K (.ref CE) = true)
    (iE : PySem.W.findIn K (.ref CE) "__init__" = some (some (.ref fEI)))
    (tIE : PySem.W.typeIn K (.ref fEI) = some (.type "function"))
    (lEI : K.lookup fEI = some ⟨ocE, odE, .func (PySem.W.fnX "__init__" "NoLoad.__init__" (defArgs L1L.sEI) (defBody L1L.sEI) (defScope L1L.sEI) [("__class__", ccE)] .none kVE dcE pmE anE (.ref cdaE) ctE), slE⟩)
    (cEI : PySem.W.codeIn K (.ref cdaE) "NoLoad.__init__" = true)
    (lcc : K.lookup ccE = some ⟨clE, cldE, .cell (some (.ref CE)), cslE⟩)
    (lcd : K.lookup cdaE = some ⟨cclE, cddE, .fields vsE, ccsE⟩)
    (hv2 : vsE[2]? = some (.str fileE tfE))
    (hfl : (l.prog.main.file == fileE) = true)
    (top : (l.prog.main.scope.names.lookup ("super" : Str)).isSome = false)
    (zsup : PySem.W.nsIn K mainGlobals "super" = some none)
    (anyE : PySem.W.nsIn K cStatics "thirdparty.any" = some none)
    (mroE : PySem.W.mroIn K CE (.ref CE) = some true)
    (supE : PySem.W.ks_superIn K CE CE "__init__" = some (some (.builtin "ValueError.__init__")))
    (sbE : PySem.W.subIn K (.ref CE) (.type "ValueError") = some true)
    (gaE : PySem.W.findIn K (.ref CE) "__getattribute__" = some (some (.builtin "BaseException.__getattribute__")))
    (ggE : PySem.W.findIn K (.ref CE) "__getattr__" = some none)
    (hdE : PySem.W.hasDictIn K CE = true)
    (noE : PySem.W.findIn K (.ref CE) "cycle" = some none)
    (w4 : PySem.W.subIn K (.ref CE) (.ref CE) = some true)
    (aLAW : PySem.W.nsIn K mainGlobals "law" = some (some (.ref fLAW)))
    (lLAW : K.lookup fLAW = some ⟨ocLAW, odLAW, .func (PySem.W.fnOf "law" "law" (defArgs L1L.sLaw) (defBody L1L.sLaw) (defScope L1L.sLaw) .none kVLAW dcLAW pmLAW anLAW cdLAW ctLAW), slLAW⟩)
    (cLAW : PySem.W.codeIn K cdLAW "law" = true)
    (kLAW : PySem.W.keepIn K (.ref fLAW) = true) :
    ∃ fd : FuncData, (∀ (s : Shared) (v : Value), BindsTo s fd ⟨[v], []⟩ [("script", v)]) ∧ ∀ base : Heap, K.In base → base.Ns mainGlobals mg → KW.Kept l.prog w K mg base 11 fa fd ["script"] (L1L.spLaw K) := by
  have e := hfa.symm.trans (PySem.W.mg_of X G aLAW)
  cases e
  have FNU := fun_mk (st := M3N.sNu) lNU cNU kNU
  have bNU := FNU.binds (ps := ["value"]) fun _ _ _ _ _ _ us hl => match us, hl with | [_], _ => rfl
  have FRD := fun_mk (st := M3N.sRd) lRD cRD kRD
  have bRD := FRD.binds (ps := ["value"]) fun _ _ _ _ _ _ us hl => match us, hl with | [_], _ => rfl
  have FRG := fun_mk (st := M3N.sRg) lRG cRG kRG
  have bRG := FRG.binds (ps := ["value"]) fun _ _ _ _ _ _ us hl => match us, hl with | [_], _ => rfl
  have FCO := fun_mk (st := sCont) lCO cCO kCO
  have bCO := FCO.binds (ps := ["outer", "inner"]) fun _ _ _ _ _ _ us hl => match us, hl with | [_, _], _ => rfl
  have FRO := fun_mk (st := PA.sRng) lRO cRO kRO
  have bRO := FRO.binds (ps := ["one", "other"]) fun _ _ _ _ _ _ us hl => match us, hl with | [_, _], _ => rfl
  have FTP := fun_mk (st := sTP) lTP cTP kTP
  have bTP := FTP.binds (ps := ["load"]) fun _ _ _ _ _ _ us hl => match us, hl with | [_], _ => rfl
  have FIL := fun_mk (st := sLO) lIL cIL kIL
  have bIL := FIL.binds (ps := ["points", "reading"]) fun _ _ _ _ _ _ us hl => match us, hl with | [_, _], _ => rfl
  have FBT := fun_mk (st := sBtw) lBT cBT kBT
  have bBT := FBT.binds (ps := ["reading", "before", "after"]) fun _ _ _ _ _ _ us hl => match us, hl with | [_, _, _], _ => rfl
  have FSW := fun_mk (st := sSw) lSW cSW kSW
  have bSW := FSW.binds (ps := ["load"]) fun _ _ _ _ _ _ us hl => match us, hl with | [_], _ => rfl
  have FMT := fun_mk (st := sMT) lMT cMT kMT
  have bMT := FMT.binds (ps := ["points", "place"]) fun _ _ _ _ _ _ us hl => match us, hl with | [_, _], _ => rfl
  have FPB := fun_mk (st := sPB) lPB cPB kPB
  have bPB := FPB.binds (ps := ["rest", "reading"]) fun _ _ _ _ _ _ us hl => match us, hl with | [_, _], _ => rfl
  have FCN := fun_mk (st := sCo) lCN cCN kCN
  have bCN := FCN.binds (ps := ["load"]) fun _ _ _ _ _ _ us hl => match us, hl with | [_], _ => rfl
  have FAL := fun_mk (st := sAl) lAL cAL kAL
  have bAL := FAL.binds (ps := ["points"]) fun _ _ _ _ _ _ us hl => match us, hl with | [_], _ => rfl
  have FOU := fun_mk (st := sCO2) lOU cOU kOU
  have bOU := FOU.binds (ps := ["cycles", "rest"]) fun _ _ _ _ _ _ us hl => match us, hl with | [_, _], _ => rfl
  have FIS := fun_mk (st := sIR2) lIS cIS kIS
  have bIS := FIS.binds (ps := ["value"]) fun _ _ _ _ _ _ us hl => match us, hl with | [_], _ => rfl
  have FIC := fun_mk (st := sIC) lIC cIC kIC
  have bIC := FIC.binds (ps := ["cycles", "rest"]) fun _ _ _ _ _ _ us hl => match us, hl with | [_, _], _ => rfl
  have FLW := fun_mk (st := sLW) lLW cLW kLW
  have bLW := FLW.binds (ps := ["cycles", "rest"]) fun _ _ _ _ _ _ us hl => match us, hl with | [_, _], _ => rfl
  have FRF := fun_mk (st := sRf) lRF cRF kRF
  have bRF := FRF.binds (ps := ["cycles", "rest"]) fun _ _ _ _ _ _ us hl => match us, hl with | [_, _], _ => rfl
  have FWC := fun_mk (st := sWC) lWC cWC kWC
  have bWC := FWC.binds (ps := ["points", "place", "cycles"]) fun _ _ _ _ _ _ us hl => match us, hl with | [_, _, _], _ => rfl
  have FFE := fun_mk (st := sFeed) lFE cFE kFE
  have bFE := FFE.binds (ps := ["script", "index"]) fun _ _ _ _ _ _ us hl => match us, hl with | [_, _], _ => rfl
  have FTA := fun_mk (st := sTake) lTA cTA kTA
  have bTA := FTA.binds (ps := ["feed", "size"]) fun _ _ _ _ _ _ us hl => match us, hl with | [_, _], _ => rfl
  have FPI := fun_mk (st := sPick) lPI cPI kPI
  have bPI := FPI.binds (ps := ["feed", "options"]) fun _ _ _ _ _ _ us hl => match us, hl with | [_, _], _ => rfl
  have FTN := fun_mk (st := M3W.sTn) lTN cTN kTN
  have bTN := FTN.binds (ps := ["load"]) fun _ _ _ _ _ _ us hl => match us, hl with | [_], _ => rfl
  have FRN := fun_mk (st := M3W.sRn) lRN cRN kRN
  have bRN := FRN.binds (ps := ["first", "second"]) fun _ _ _ _ _ _ us hl => match us, hl with | [_, _], _ => rfl
  have FHS := fun_mk (st := M3W.sHs) lHS cHS kHS
  have bHS := FHS.binds (ps := ["outer", "inner"]) fun _ _ _ _ _ _ us hl => match us, hl with | [_, _], _ => rfl
  have FMY := fun_mk (st := M3W.sMy) lMY cMY kMY
  have bMY := FMY.binds (ps := ["points", "k"]) fun _ _ _ _ _ _ us hl => match us, hl with | [_, _], _ => rfl
  have FKT := fun_mk (st := M3W.sCt) lKT cKT kKT
  have bKT := FKT.binds (ps := ["load"]) fun _ _ _ _ _ _ us hl => match us, hl with | [_], _ => rfl
  have FMD := fun_mk (st := L1R.sMd) lMD cMD kMD
  have bMD := FMD.binds (ps := ["cycles", "rest"]) fun _ _ _ _ _ _ us hl => match us, hl with | [_, _], _ => rfl
  have FMX := fun_mk (st := L1X.sMx) lMX cMX kMX
  have bMX := FMX.binds (ps := ["feed", "things"]) fun _ _ _ _ _ _ us hl => match us, hl with | [_, _], _ => rfl
  have FIN := fun_mk (st := sInit) lIN cIN kIN
  have bIN := FIN.binds (ps := ["self", "cycles", "rest"]) fun _ _ _ _ _ _ us hl => match us, hl with | [_, _, _], _ => rfl
  have FOF := fun_mk (st := sOf) lOF cOF kOF
  have bOF := FOF.binds (ps := ["cls", "load"]) fun _ _ _ _ _ _ us hl => match us, hl with | [_, _], _ => rfl
  have FPC := fun_mk (st := sPC) lPC cPC kPC
  have bPC := FPC.binds (ps := ["self"]) fun _ _ _ _ _ _ us hl => match us, hl with | [_], _ => rfl
  have FPR_ := fun_mk (st := sPR) lPR_ cPR_ kPR_
  have bPR_ := FPR_.binds (ps := ["self"]) fun _ _ _ _ _ _ us hl => match us, hl with | [_], _ => rfl
  have FLAW := fun_mk (st := L1L.sLaw) lLAW cLAW kLAW
  have oexE : OexC K CE := ⟨⟨_, _, _, _, _, _, _, _, _, _, _, _, _, _, _, xL, by rfl⟩, saE, exE, tyE, kE⟩
  have FEI : XS.FunS K l.prog "__init__" "NoLoad.__init__" L1L.sEI CE fEI (PySem.W.fnX "__init__" "NoLoad.__init__" (defArgs L1L.sEI) (defBody L1L.sEI) (defScope L1L.sEI) [("__class__", ccE)] .none kVE dcE pmE anE (.ref cdaE) ctE) := ⟨⟨_, _, _, _, _, _, _, _, _, _, _, _, _, _, _, _, _, _, _, _, rfl, lEI, cEI, lcc, lcd, hv2, hfl⟩⟩
  have bEI : Binds K (PySem.W.fnX "__init__" "NoLoad.__init__" (defArgs L1L.sEI) (defBody L1L.sEI) (defScope L1L.sEI) [("__class__", ccE)] .none kVE dcE pmE anE (.ref cdaE) ctE) ["self", "cycle"] [] := fun s us _ hl => match us, hl with | [_, _], _ => .of_eq rfl
  have T : L1L.Txt l.prog K mg fNU fRD fRG fCO fRO fTP fIL fBT fSW fMT fPB fCN fAL fOU fIS fIC fLW fRF fWC fFE fTA fPI fTN fRN fHS fMY fKT fMD fMX C fIN pO fOF p1 fPC p2 fPR_ CE fEI _ _ _ _ _ _ _ _ _ _ _ _ _ _ _ _ _ _ _ _ _ _ _ _ _ _ _ _ _ _ _ _ _ _ := ⟨FNU, PySem.W.mg_of X G aNU, kNU, bNU, FRD, PySem.W.mg_of X G aRD, kRD, bRD, FRG, PySem.W.mg_of X G aRG, kRG, bRG, FCO, PySem.W.mg_of X G aCO, kCO, bCO, FRO, PySem.W.mg_of X G aRO, kRO, bRO, FTP, PySem.W.mg_of X G aTP, kTP, bTP, FIL, PySem.W.mg_of X G aIL, kIL, bIL, FBT, PySem.W.mg_of X G aBT, kBT, bBT, FSW, PySem.W.mg_of X G aSW, kSW, bSW, FMT, PySem.W.mg_of X G aMT, kMT, bMT, FPB, PySem.W.mg_of X G aPB, kPB, bPB, FCN, PySem.W.mg_of X G aCN, kCN, bCN, FAL, PySem.W.mg_of X G aAL, kAL, bAL, FOU, PySem.W.mg_of X G aOU, kOU, bOU, FIS, PySem.W.mg_of X G aIS, kIS, bIS, FIC, PySem.W.mg_of X G aIC, kIC, bIC, FLW, PySem.W.mg_of X G aLW, kLW, bLW, FRF, PySem.W.mg_of X G aRF, kRF, bRF, FWC, PySem.W.mg_of X G aWC, kWC, bWC, FFE, PySem.W.mg_of X G aFE, kFE, bFE, FTA, PySem.W.mg_of X G aTA, kTA, bTA, FPI, PySem.W.mg_of X G aPI, kPI, bPI, FTN, PySem.W.mg_of X G aTN, kTN, bTN, FRN, PySem.W.mg_of X G aRN, kRN, bRN, FHS, PySem.W.mg_of X G aHS, kHS, bHS, FMY, PySem.W.mg_of X G aMY, kMY, bMY, FKT, PySem.W.mg_of X G aKT, kKT, bKT, FMD, PySem.W.mg_of X G aMD, kMD, bMD, FMX, PySem.W.mg_of X G aMX, kMX, bMX, PySem.W.mg_of X G aC, ⟨⟨pg, hd, po, sa⟩, na0, na1⟩, ⟨mk, aI, iI, kc⟩, FIN, bIN, ⟨rdOF, gaOF⟩, ⟨aOF, ⟨_, rcOF⟩, fiOF⟩, FOF, bOF, ⟨aPPC, gPPC, tPPC, ⟨_, rcPPC⟩⟩, FPC, bPC, ⟨aPPR_, gPPR_, tPPR_, ⟨_, rcPPR_⟩⟩, FPR_, bPR_, PySem.W.mg_none_of X G z1, PySem.W.mg_none_of X G z2, PySem.W.mg_none_of X G z3, PySem.W.mg_none_of X G z4, PySem.W.mg_none_of X G z5, PySem.W.mg_none_of X G z6, PySem.W.mg_none_of X G z7, PySem.W.mg_none_of X G z8, PySem.W.mg_none_of X G z9, PySem.W.mg_none_of X G z10, PySem.W.mg_none_of X G z11, PySem.W.mg_none_of X G z12, PySem.W.mg_none_of X G z13, PySem.W.mg_none_of X G z14, PySem.W.mg_none_of X G z15, ⟨_, PySem.W.mg_of X G agLIM, rgLIM⟩, PySem.W.mg_of X G aNLc, ⟨oexE, iE, tIE⟩, FEI, bEI, ⟨top, PySem.W.mg_none_of X G zsup, anyE⟩, ⟨oexE, mroE, supE, sbE⟩, ⟨⟨gaE, ggE, exE, hdE⟩, noE⟩, PySem.W.exm_ref exE hdE tyE w4⟩
  exact ⟨PySem.W.fnOf "law" "law" (defArgs L1L.sLaw) (defBody L1L.sLaw) (defScope L1L.sLaw) .none kVLAW dcLAW pmLAW anLAW cdLAW ctLAW, fun s v => .of_eq rfl, fun base _ _ => L1L.ok_law FLAW T⟩
end L1E0
open PySem PySem.W PyProof.Rows
set_option maxRecDepth 100000 in
set_option maxHeartbeats 0 in
theorem PySem.Challenge.cw_wearswings_k31_loads_with_a_count_holds : PySem.Challenge.rw_wearswings_k31_loads_with_a_count.Holds := by
  w_on; o_law; k_head; (case hw => w_witness2)
  k_fill
  refine KW.walk_kept (l := PySem.Challenge.rw_wearswings_k31_loads_with_a_count) (n := 63) (k := 11) (x := "script") (sp := L1L.spLaw) rfl (by decide) rfl ⟨rfl, by decide, by decide⟩ (fun w h Y => PySem.W.kIn_of Y) ?F (fun K H a ns hl _ hS => ⟨a, ns, rfl, hS, hl, fun _ => rfl⟩)
  case F =>
    intro w mg fa h KX G hmg
    refine' L1E0.all_mk KX G hmg ?aNU ?lNU ?cNU ?kNU ?aRD ?lRD ?cRD ?kRD ?aRG ?lRG ?cRG ?kRG ?aCO ?lCO ?cCO ?kCO ?aRO ?lRO ?cRO ?kRO ?aTP ?lTP ?cTP ?kTP ?aIL ?lIL ?cIL ?kIL ?aBT ?lBT ?cBT ?kBT ?aSW ?lSW ?cSW ?kSW ?aMT ?lMT ?cMT ?kMT ?aPB ?lPB ?cPB ?kPB ?aCN ?lCN ?cCN ?kCN ?aAL ?lAL ?cAL ?kAL ?aOU ?lOU ?cOU ?kOU ?aIS ?lIS ?cIS ?kIS ?aIC ?lIC ?cIC ?kIC ?aLW ?lLW ?cLW ?kLW ?aRF ?lRF ?cRF ?kRF ?aWC ?lWC ?cWC ?kWC ?aFE ?lFE ?cFE ?kFE ?aTA ?lTA ?cTA ?kTA ?aPI ?lPI ?cPI ?kPI ?aTN ?lTN ?cTN ?kTN ?aRN ?lRN ?cRN ?kRN ?aHS ?lHS ?cHS ?kHS ?aMY ?lMY ?cMY ?kMY ?aKT ?lKT ?cKT ?kKT ?aMD ?lMD ?cMD ?kMD ?aMX ?lMX ?cMX ?kMX ?aC ?pg ?hd ?po ?sa ?na0 ?na1 ?mk ?kc ?aI ?iI ?lIN ?cIN ?kIN ?rdOF ?gaOF ?aOF ?rcOF ?fiOF ?lOF ?cOF ?kOF ?aPPC ?gPPC ?tPPC ?rcPPC ?lPC ?cPC ?kPC ?aPPR_ ?gPPR_ ?tPPR_ ?rcPPR_ ?lPR_ ?cPR_ ?kPR_ ?z1 ?z2 ?z3 ?z4 ?z5 ?z6 ?z7 ?z8 ?z9 ?z10 ?z11 ?z12 ?z13 ?z14 ?z15 ?agLIM ?rgLIM ?aNLc ?xL ?saE ?exE ?tyE ?kE ?iE ?tIE ?lEI ?cEI ?lcc ?lcd ?hv2 ?hfl ?top ?zsup ?anyE ?mroE ?supE ?sbE ?gaE ?ggE ?hdE ?noE ?w4 ?aLAW ?lLAW ?cLAW ?kLAW
    (case aNU => k_is)
    (case lNU => k_is)
    (case cNU => k_is)
    (case kNU => k_is)
    (case aRD => k_is)
    (case lRD => k_is)
    (case cRD => k_is)
    (case kRD => k_is)
    (case aRG => k_is)
    (case lRG => k_is)
    (case cRG => k_is)
    (case kRG => k_is)
    (case aCO => k_is)
    (case lCO => k_is)
    (case cCO => k_is)
    (case kCO => k_is)
    (case aRO => k_is)
    (case lRO => k_is)
    (case cRO => k_is)
    (case kRO => k_is)
    (case aTP => k_is)
    (case lTP => k_is)
    (case cTP => k_is)
    (case kTP => k_is)
    (case aIL => k_is)
    (case lIL => k_is)
    (case cIL => k_is)
    (case kIL => k_is)
    (case aBT => k_is)
    (case lBT => k_is)
    (case cBT => k_is)
    (case kBT => k_is)
    (case aSW => k_is)
    (case lSW => k_is)
    (case cSW => k_is)
    (case kSW => k_is)
    (case aMT => k_is)
    (case lMT => k_is)
    (case cMT => k_is)
    (case kMT => k_is)
    (case aPB => k_is)
    (case lPB => k_is)
    (case cPB => k_is)
    (case kPB => k_is)
    (case aCN => k_is)
    (case lCN => k_is)
    (case cCN => k_is)
    (case kCN => k_is)
    (case aAL => k_is)
    (case lAL => k_is)
    (case cAL => k_is)
    (case kAL => k_is)
    (case aOU => k_is)
    (case lOU => k_is)
    (case cOU => k_is)
    (case kOU => k_is)
    (case aIS => k_is)
    (case lIS => k_is)
    (case cIS => k_is)
    (case kIS => k_is)
    (case aIC => k_is)
    (case lIC => k_is)
    (case cIC => k_is)
    (case kIC => k_is)
    (case aLW => k_is)
    (case lLW => k_is)
    (case cLW => k_is)
    (case kLW => k_is)
    (case aRF => k_is)
    (case lRF => k_is)
    (case cRF => k_is)
    (case kRF => k_is)
    (case aWC => k_is)
    (case lWC => k_is)
    (case cWC => k_is)
    (case kWC => k_is)
    (case aFE => k_is)
    (case lFE => k_is)
    (case cFE => k_is)
    (case kFE => k_is)
    (case aTA => k_is)
    (case lTA => k_is)
    (case cTA => k_is)
    (case kTA => k_is)
    (case aPI => k_is)
    (case lPI => k_is)
    (case cPI => k_is)
    (case kPI => k_is)
    (case aTN => k_is)
    (case lTN => k_is)
    (case cTN => k_is)
    (case kTN => k_is)
    (case aRN => k_is)
    (case lRN => k_is)
    (case cRN => k_is)
    (case kRN => k_is)
    (case aHS => k_is)
    (case lHS => k_is)
    (case cHS => k_is)
    (case kHS => k_is)
    (case aMY => k_is)
    (case lMY => k_is)
    (case cMY => k_is)
    (case kMY => k_is)
    (case aKT => k_is)
    (case lKT => k_is)
    (case cKT => k_is)
    (case kKT => k_is)
    (case aMD => k_is)
    (case lMD => k_is)
    (case cMD => k_is)
    (case kMD => k_is)
    (case aMX => k_is)
    (case lMX => k_is)
    (case cMX => k_is)
    (case kMX => k_is)
    (case aC => k_is)
    (case pg => k_is)
    (case hd => k_is)
    (case po => k_is)
    (case sa => k_is)
    (case na0 => k_is)
    (case na1 => k_is)
    (case mk => k_is)
    (case kc => k_is)
    (case aI => k_is)
    (case iI => k_is)
    (case lIN => k_is)
    (case cIN => k_is)
    (case kIN => k_is)
    (case rdOF => k_is)
    (case gaOF => k_is)
    (case aOF => k_is)
    (case rcOF => k_is)
    (case fiOF => k_is)
    (case lOF => k_is)
    (case cOF => k_is)
    (case kOF => k_is)
    (case aPPC => k_is)
    (case gPPC => k_is)
    (case tPPC => k_is)
    (case rcPPC => k_is)
    (case lPC => k_is)
    (case cPC => k_is)
    (case kPC => k_is)
    (case aPPR_ => k_is)
    (case gPPR_ => k_is)
    (case tPPR_ => k_is)
    (case rcPPR_ => k_is)
    (case lPR_ => k_is)
    (case cPR_ => k_is)
    (case kPR_ => k_is)
    (case z1 => k_is)
    (case z2 => k_is)
    (case z3 => k_is)
    (case z4 => k_is)
    (case z5 => k_is)
    (case z6 => k_is)
    (case z7 => k_is)
    (case z8 => k_is)
    (case z9 => k_is)
    (case z10 => k_is)
    (case z11 => k_is)
    (case z12 => k_is)
    (case z13 => k_is)
    (case z14 => k_is)
    (case z15 => k_is)
    (case agLIM => k_is)
    (case rgLIM => exact ⟨_, rfl⟩)
    (case aNLc => k_is)
    (case xL => k_is)
    (case saE => k_is)
    (case exE => k_is)
    (case tyE => k_is)
    (case kE => k_is)
    (case iE => k_is)
    (case tIE => k_is)
    (case lEI => k_is)
    (case cEI => k_is)
    (case lcc => k_is)
    (case lcd => k_is)
    (case hv2 => first | rfl | k_is)
    (case hfl => first | rfl | decide +kernel)
    (case top => first | rfl | decide +kernel)
    (case zsup => k_is)
    (case anyE => k_is)
    (case mroE => k_is)
    (case supE => ks_is)
    (case sbE => k_is)
    (case gaE => k_is)
    (case ggE => k_is)
    (case hdE => k_is)
    (case noE => k_is)
    (case w4 => first | rfl | k_is)
    (case aLAW => k_is)
    (case lLAW => k_is)
    (case cLAW => k_is)
    (case kLAW => k_is)

