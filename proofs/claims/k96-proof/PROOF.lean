import PyProof.Rows.All
import Wide.All
import OpenK.AllK
import Wide.FinOn
import HandS.ForMost
import HandS.Flow
import HandS.OwnEq
import HandS.More
import HandS.DictComp
import HandS.List
import KE.KEqDict
import KE.KDictKeyed
import KE.KRevSl
import PyProof.InstNe
import HandS.IsInst
import HandS.SortRule
import HandS.Property
import HandS.ClsMeth
import HandS.Star
import HandS.Codes
import HandS.Strs
import HandS.SetFor
import HandS.RaiseMore
import HandS.Wide
import HandS.Style
import HandS.Walk
import HandS.Zip
import HandS.TupAny
import HandS.Conv
import HandS.Deep
import HandS.SortKw
import HandS.NamedTupSort
import HandS.Iter
import KE.GoesEnum
import KE.GoesZip
import KE.GoesMore
import HandS.Comp
import HandS.Defaults
import HandS.TupSets
import KE.DataMinMax
import HandS.ExcInit
import HandS.Nested
import KE.KExcSuper
import HandS.ForExc
import HandS.ExcIs
import HandS.ExcField
import HandS.Gcd
import HandS.TryOnly
import HandS.TupLe
import KE.RegKSuper
import PySem.Challenge.RW_wearswings_k96_whole_lists_one_behind_an
set_option Elab.async false
set_option linter.all false
set_option maxRecDepth 100000
set_option maxHeartbeats 16000000
/-! del xs[-3:-1] of a list of at least three -/
namespace DS
open PySem PySem.Spec PyProof.Rows L2
def sel (start stop step : Int) (i : Nat) : Bool :=
  if step > 0 then start ≤ i && i < stop && (i - start) % step == 0 else stop < i && i ≤ start && (start - i) % (-step) == 0
theorem sel_iff (a c : Int) (i : Nat) : sel a c 1 i = decide (a ≤ i ∧ (i : Int) < c) := by
  unfold sel
  rw [if_pos (by decide)]
  have e : ((((i : Int) - a) % 1) == 0) = true := by rw [Int.emod_one]; rfl
  rw [e, Bool.and_true]
  by_cases h1 : a ≤ (i : Int) <;> by_cases h2 : (i : Int) < c <;> simp [h1, h2]
def cutOut (a c : Int) (xs : Array Value) : Array Value := (xs.toList.zipIdx.filterMap fun (x, k) => if sel a c 1 k then none else some x).toArray
theorem keep_all {a c : Int} : ∀ (l : List Value) (s : Nat), ((s + l.length : Nat) : Int) ≤ a → (l.zipIdx s).filterMap (fun (x, k) => if sel a c 1 k then none else some x) = l
  | [], _, _ => rfl
  | x :: l, s, h => by
    rw [List.zipIdx_cons, List.filterMap_cons]
    have e : sel a c 1 s = false := by rw [sel_iff]; exact decide_eq_false (by simp only [List.length_cons] at h; omega)
    have ih := keep_all (a := a) (c := c) l (s + 1) (by simp only [List.length_cons] at h; omega)
    simp only [e, Bool.false_eq_true, if_false]
    rw [ih]
theorem cut_three (pre : List Value) (x y z : Value) : cutOut ((pre.length : Nat) : Int) (((pre.length + 2 : Nat)) : Int) (pre ++ [x, y, z]).toArray = (pre ++ [z]).toArray := by
  unfold cutOut
  congr 1
  show ((pre ++ [x, y, z]).zipIdx.filterMap _) = _
  rw [List.zipIdx_append, List.filterMap_append, keep_all pre 0 (by omega)]
  congr 1
  have e1 : sel ((pre.length : Nat) : Int) (((pre.length + 2 : Nat)) : Int) 1 pre.length = true := by rw [sel_iff]; exact decide_eq_true (by omega)
  have e2 : sel ((pre.length : Nat) : Int) (((pre.length + 2 : Nat)) : Int) 1 (pre.length + 1) = true := by rw [sel_iff]; exact decide_eq_true (by omega)
  have e3 : sel ((pre.length : Nat) : Int) (((pre.length + 2 : Nat)) : Int) 1 (pre.length + 1 + 1) = false := by rw [sel_iff]; exact decide_eq_false (by omega)
  simp only [Nat.zero_add, List.zipIdx_cons, List.zipIdx_nil, List.filterMap_cons, List.filterMap_nil, e1, e2, e3, if_true, Bool.false_eq_true, if_false]
theorem bounds31 (n : Nat) : sliceBounds (some (-3)) (some (-1)) none (n + 3) = (((n : Nat) : Int), ((n + 2 : Nat) : Int), 1) := by
  simp only [sliceBounds, Option.getD_none]
  have h1 : (-3 : Int) < 0 := by decide
  have h2 : (-1 : Int) < 0 := by decide
  simp only [h1, h2, if_true, show (1 : Int) > 0 by decide]
  congr 1
  · omega
  · congr 1; omega
section
variable {prog : Program} {w : World} {A : Around} {E : Value → Shared → Prop} {s : Shared}
theorem del31 {l sl : Addr} {its : Array Value} {n : Nat} {vl vu : Value} {Q : Unit → Shared → Prop} (e : s.heap.get? l = some { cls := .type "list", data := .seq its n }) (hs : s.heap.IsSliceOf sl vl vu .none)
    (pl : IsPart vl (some (-3))) (pu : IsPart vu (some (-1))) (m : Nat) (hm : its.size = m + 3) (hz : its.size ≤ sizeLine)
    (h : Q () { s with heap := s.heap.update l (Obj.mapSeq (cutOut (m : Int) ((m + 2 : Nat) : Int))) }) : wpAny (model prog w) A (delItem (.ref l) (.ref sl)) Q E s := by
  have hl : s.heap.IsList l its := PySem.IsL.isList e
  obtain ⟨os, hos, hcs, hds⟩ := id hs
  have hT : s.TypeIs (.ref sl) "slice" := ⟨os, hos, hcs⟩
  have hst : ¬ ((rawPart none == rawInt 0) = true) := Bool.false_ne_true
  refine wpAny_delItem_slot hl.typeIs (by decide) F.slot_list_delitem (wpAny_call_entry F.slot_list_delitem hl.typeIs F.entry_list_delitem ?_ (F.args_list_delitem_2 _ _))
  unfold Builtin.«list.__delitem__»
  refine wpAny_bind (wpAny_of_eq (a := (Value.ref l, [Value.ref sl])) (by first | rfl | kernel_rfl) ?_)
  show wpAny _ _ (Builtin.List.listSubscript? (.ref sl) >>= _) _ _ s
  unfold Builtin.List.listSubscript?
  refine wpAny_bind (wpAny_bind (wpAny_specialOf hT slice_no_index ?_))
  simp only [Option.isNone_none, if_true]
  refine wpAny_pure ?_
  show wpAny _ _ (typeOf (.ref sl) >>= _) _ _ s
  refine wpAny_bind (wpAny_typeOf hT ?_)
  first
    | rw [if_neg (by decide)]
    | refine PySem.W.KFB.if_not (by decide) ?_
  rw [listSliceParts_eq]
  refine wpAny_bind (wpAny_bind (wpAny_field hos hds rfl (wpAny_bind (wpAny_listPart .none ?_))))
  rw [if_neg hst]
  refine wpAny_bind (wpAny_field hos hds rfl (wpAny_bind (wpAny_listPart pl ?_)))
  refine wpAny_bind (wpAny_field hos hds rfl (wpAny_bind (wpAny_listPart pu (wpAny_pure ?_))))
  unfold Builtin.List.listItems
  refine wpAny_bind (wpAny_bind (wpAny_seqItems e rfl (wpAny_pure ?_)))
  rw [hm]
  refine wpAny_bind (wpAny_of_eq ((sliceIndices_raw (some (-3)) (some (-1)) none (m + 3) (by simp)).trans (congrArg (pure : Int × Int × Int → Sem (Int × Int × Int)) (bounds31 m))) ?_)
  refine wpAny_bind (wpAny_rule ?_)
  have hz2 : (cutOut (m : Int) ((m + 2 : Nat) : Int) its).size ≤ sizeLine + 1 := by
    unfold cutOut
    rw [List.size_toArray]
    refine Nat.le_trans (List.length_filterMap_le _ _) ?_
    rw [List.length_zipIdx, Array.length_toList]
    omega
  show wpAny _ _ (updateSeq l (cutOut (m : Int) ((m + 2 : Nat) : Int)) >>= _) _ _ s
  refine wpAny_bind (wpAny_updateSeq (hz := hz) (_hz' := hz2) e rfl ?_)
  refine wpAny_bind (wpAny_letGo ?_)
  first
    | exact wpAny_pure ⟨.none, rfl, h⟩
    | exact wpAny_pure h
end
theorem split3 : ∀ {pre : List V} {x1 y1 z1 : V} {its : List Value}, Vals (pre ++ [x1, y1, z1]) its → ∃ ip i1 i2 i3, its = ip ++ [i1, i2, i3] ∧ Vals pre ip ∧ RelV x1 i1 ∧ RelV y1 i2 ∧ RelV z1 i3
  | [], _, _, _, _, .cons r1 (.cons r2 (.cons r3 .nil)) => ⟨[], _, _, _, rfl, .nil, r1, r2, r3⟩
  | _ :: pre, _, _, _, _, .cons r0 t => by
    obtain ⟨ip, i1, i2, i3, e, rp, h⟩ := split3 (pre := pre) t
    exact ⟨_ :: ip, i1, i2, i3, by rw [e]; rfl, .cons r0 rp, h⟩
section
variable {X : Cx}
/-- del xs[-3:-1] of a list of at least three -/
def tDel31 (to : TE) (tl th : TO) : TS := fun D σ H => to σ H fun x H1 => tl σ H1 fun l H2 => th σ H2 fun u H3 => l = some (-3) ∧ u = some (-1) ∧ ∃ (a : Addr) (pre : List V) (x1 y1 z1 : V), x = .ref a ∧ H3 a = some (.lst (pre ++ [x1, y1, z1])) ∧
  D.nx σ (upd H3 a (.lst (pre ++ [z1])))
theorem ps_del31 {o : Expr} {lo hi : Option Expr} {to : TE} {tl th : TO} {tpos p2 pos : Pos} (ho : PE X o to) (hl : PO X lo tl) (hu : PO X hi th) : PS X (.Delete [.Subscript o (.Slice lo hi none p2) tpos] pos) (tDel31 to tl th) := by
  refine ⟨fun pins s σ H D I h => ?_⟩
  refine wpAny_Delete (wpAny_deleteEach_cons (wpAny_delete_Subscript (thn (ho.run pins s σ H _ I h) fun u s1 ⟨x, H1, I1, rx, q1⟩ => ?_)))
  refine wpAny_Slice (thn (hl.run pins s1 σ H1 _ I1 q1) fun vl s2 ⟨l, H2, I2, pl, q2⟩ => thn (hu.run pins s2 σ H2 _ I2 q2) fun vu s3 ⟨w, H3, I3, pu, q3⟩ => ?_)
  rw [evalPart_none]
  refine wpAny_pure ?_
  obtain ⟨e1, e2, a, pre, x1, y1, z1, rfl, hH, q⟩ := q3
  subst e1 e2
  cases (show u = Value.ref a from rx)
  have I4 : Inv X pins σ H3 { s3 with heap := s3.heap.push { cls := .type "slice", data := .fields #[vl, vu, .none] } } := I3.kept (t' := s3.toks) fun b o e => Heap.get?_push_of_some _ e
  obtain ⟨z, its, n, r, hlen, e⟩ := I4.lstM hH
  have hn : its.length = pre.length + 3 := by rw [← hlen]; simp
  obtain ⟨ip, i1, i2, i3, ei, rp, r1, r2, r3⟩ : ∃ ip i1 i2 i3, its = ip ++ [i1, i2, i3] ∧ Vals pre ip ∧ RelV x1 i1 ∧ RelV y1 i2 ∧ RelV z1 i3 := split3 r
  subst ei
  have hp : ip.length = pre.length := rp.length.symm
  refine del31 e (Heap.IsSliceOf.new ..) pl pu pre.length (by rw [List.size_toArray]; exact hn) (by rw [List.size_toArray, ← hlen]; exact z) (wpAny_deleteEach_nil ⟨σ, _, I4.lset (ys := pre ++ [z1]) (its' := ip ++ [i3]) (t' := s3.toks) hH e ?_ (rp.append (.cons r3 .nil)) ?_, q⟩)
  · rw [← hp]
    exact cut_three ip i1 i2 i3
  · have := z
    simp only [List.length_append, List.length_cons, List.length_nil] at this ⊢
    omega
end
end DS

/-! set(xs) of a list of ints, with the order's ledger kept (for sorted behind it) -/
namespace KS
open PySem PySem.Spec PyProof.Rows L2
abbrev leer (w : World) : Obj := { cls := .type "set", dict := none, data := .set #[] 0 (.fresh 0 0 (!w.params.followText "set-order")) }
section
variable {P : Program} {w : World} {A : Around} {E : Value → Shared → Prop} {s : Shared}
/-- what stands behind set's own __init__ -/
abbrev Made (w : World) (s : Shared) (ns : List Int) (Q : Shared → Prop) : Prop :=
  ∀ (g : Heap) (tk c : Nat), SetR w g s.heap.objs.size (fun j => decide (j ∈ ns)) c → c ≤ ns.length → (∀ b o, s.heap.get? b = some o → g.get? b = some o) → Q { s with heap := g, toks := tk }
set_option maxHeartbeats 6400000 in
theorem set_lst {l : Addr} {its : Array Value} (ns : List Int) {Q : Value → Shared → Prop} (hh : A.handled = none) (hl : s.heap.IsList l its) (hit : IntsAre its.toList ns) (hb : ns.length + 1 < scanBound)
    (h : Made w s ns (Q (.ref s.heap.objs.size))) : wpAny (model P w) A (call (.type "set") [.ref l]) Q E s := by
  have hn : its.size = ns.length := by
    rw [← Array.length_toList]; exact IntsAre.length hit
  obtain ⟨c0, t0, hm⟩ := F.called_set.mro
  have k1 := F.called_set.made; have k2 := F.called_set.sub; have k3 := F.called_set.notType; have k4 := F.called_set.canCreate; have k5 := F.typeCall_set_1 (.ref l)
  refine wpAny_call (codeAny_of_tree (show wpAny _ _ (callAny (.type "set") _) _ _ _ from ?_))
  have uu : A.under (.builtin "type.__call__" ⟨[.type "set", .ref l], []⟩) = A.in1 := Around.under_plain (weight_type_call_type "set" [.ref l] []) rfl
  refine wpAny_pure ⟨Code.quiet_builtin _ (by decide +kernel), codeAny_builtin F.entry_type_call ?_⟩
  rw [show A.under (.builtin "type.__call__" { ({ pos := [Value.ref l] } : Args) with pos := .type "set" :: [Value.ref l] }) = A.in1 from uu]
  repeat (any_goals (first | assumption | wp_step))
  have hs0 : (s.heap.push (leer w)).get? s.heap.objs.size = some (leer w) := Heap.get?_push_size _ rfl
  refine codeAny_mono (code_set_led1 (.ref l) (E := E) (Q₁ := fun x s1 => x = .ref s.heap.objs.size ∧ s1 = { s with heap := s.heap.push (leer w) }) ⟨rfl, rfl⟩) fun r1 s1 e1 => ?_
  match r1, e1 with
  | .error _, e1 => exact e1
  | .ok (.next), e1 => exact e1.elim
  | .ok (.brk), e1 => exact e1.elim
  | .ok (.cont), e1 => exact e1.elim
  | .ok (.ret x), e1 =>
    obtain ⟨rfl, rfl⟩ := e1
    have hT : Shared.TypeIs { s with heap := s.heap.push (leer w) } (.ref s.heap.objs.size) "set" := ⟨_, hs0, rfl⟩
    have j1 := F.called_set.init.lookup; have j2 := F.called_set.init.bind (.ref s.heap.objs.size)
    repeat (any_goals (first | assumption | wp_step))
    refine codeAny_mono (codeAny_call_builtin (R := wants (fun v s2 => v = .none ∧ ∃ g tk c, s2 = { s with heap := g, toks := tk } ∧ SetR w g s.heap.objs.size (fun j => decide (j ∈ ns)) c ∧ c ≤ ns.length ∧ ∀ b o, s.heap.get? b = some o → g.get? b = some o) E)
      F.called_set.init.plain F.entry_set_init (check_set_init_1 hT ?_)) fun r2 s2 e2 => ?_
    · obtain ⟨ol, a1, a2, nl, a3⟩ := hl
      obtain ⟨xc, xd, xt, xs⟩ := ol
      simp only at a2 a3
      subst a2 a3
      have a4 : (s.heap.push (leer w)).get? l = some { cls := .type "list", dict := xd, data := .seq its nl, slots := xs } := Heap.get?_push_of_some _ a1
      have b1 := F.sub_list_set; have b2 := F.sub_list_frozenset; have b3 : (Value.type "list" == Value.type "dict") = false := by decide
      have a5 : (s.heap.push (leer w)).IsList l its := ⟨_, a4, rfl, nl, rfl⟩
      unfold Builtin.«set.__init__» noKeywords Builtin.Frozenset.updateFrom
      generalize hPI : pyIter = PI
      wp_walk
      subst hPI
      refine wpAny_pyIter_list a5 (wpAny_bind (wpAny_runValue ?_))
      have lt := Heap.lt_size a1
      have sz : (s.heap.push (leer w)).objs.size = s.heap.objs.size + 1 := Heap.size_push ..
      have d1 : l ≠ (s.heap.push (leer w)).objs.size := by rw [sz]; exact Nat.ne_of_lt (Nat.lt_succ_of_lt lt)
      have d2 : s.heap.objs.size ∉ [(s.heap.push (leer w)).objs.size, l] := by
        rw [sz]; intro z; rcases List.mem_cons.mp z with z | z
        · exact absurd z (Nat.ne_of_lt (Nat.lt_succ_self _))
        · exact absurd (List.mem_singleton.mp z) (Nat.ne_of_gt lt)
      have vl : ∀ i v, its[i]? = some v → ∃ (k : Int) (t : Tok), ns[i]? = some k ∧ v = Value.int k t := fun i v e => by
        have hi : i < ns.length := by rw [← hn]; exact (Array.getElem?_eq_some_iff.mp e).1
        obtain ⟨t, et⟩ := IntsAre.int_at hit i v (by rw [Array.getElem?_toList]; exact e)
        exact ⟨ns[i], t, List.getElem?_eq_getElem hi, by rw [et, List.getD_eq_getElem?_getD, List.getElem?_eq_getElem hi]; rfl⟩
      have hq : A.in1.in1.in1.handled = none := by simp [hh]
      refine set_update_ints ((Walks.list hq _ l d1 its).toS) s.heap.objs.size d2 ns hn hb vl (its.size - 0) 0 _ (by omega) (Nat.zero_le _) ⟨⟨_, Heap.get?_push_size _ rfl, rfl, rfl⟩, a5.push _⟩
        ⟨0, Nat.le_refl 0, setR_new_at (Heap.get?_push_of_some _ hs0)⟩ fun s3 c3 mv hc3 R3 => ?_
      obtain ⟨g3, gg, dd, tk3, oo⟩ := s3
      obtain rfl : gg = s.gens := mv.gens
      obtain rfl : dd = s.drawn := mv.drawn
      obtain rfl : oo = s.os := mv.os
      refine (show wpAny _ _ _ _ _ _ from wpAny_pure (show wpAny _ _ (ret Value.none) _ _ _ from wpAny_pure ⟨rfl, g3, tk3, c3, rfl, R3, by omega, fun b o e => ?_⟩))
      have hb0 := Heap.lt_size e
      exact mv.heap b o (by rw [sz]; intro z; rcases List.mem_cons.mp z with z | z
                            · exact absurd z (Nat.ne_of_lt hb0)
                            · exact absurd (List.mem_singleton.mp z) (Nat.ne_of_lt (Nat.lt_succ_of_lt hb0))) (Heap.get?_push_of_some _ (Heap.get?_push_of_some _ e))
    · match r2, e2 with
      | .error _, e2 => exact e2
      | .ok (.next), e2 => exact e2.elim
      | .ok (.brk), e2 => exact e2.elim
      | .ok (.cont), e2 => exact e2.elim
      | .ok (.ret y), e2 =>
        obtain ⟨rfl, g, tk, c, rfl, R2, hc, hk⟩ := e2
        repeat (any_goals (first | assumption | wp_step))
        exact h _ _ _ R2 hc hk
end
section
variable {X : Cx}
/-- set(xs) of a list of ints -/
def rSetL (w : World) (K : PySem.W.Frag) : List V → Hp → VK → Prop := fun vs H Q => ∃ (a : Addr) (ns : List Int), vs = [V.ref a] ∧ SqL K H a (ns.map V.int) ∧ ns.length ≤ 1000 ∧
  ∀ (p : Addr) (c : Nat), H p = none → c ≤ ns.length → Q (.ref p) (upd H p (SetO w p (fun j => decide (j ∈ ns)) c))
theorem cr_setL (hc : X.calm = true) : CallR X (.type "set") (rSetL X.w X.K) := by
  intro pins s σ H vs us Q I r h
  obtain ⟨a, ns, rfl, hS, hlen, q⟩ := h
  rw [Vals.ref1 r]
  obtain ⟨its, rv, pl, hz⟩ := I.list hS
  refine set_lst ns (I.ok.hd hc) pl.isList (by simpa using ints_of_vals rv) (by unfold scanBound; omega) fun g tk c R hcn k => ?_
  exact ⟨.ref _, _, I.laid (t' := tk) k (Nat.le_refl _) (setO_new R), rfl, q _ c (I.hok.fresh (Nat.le_refl _)) hcn⟩
end
end KS

/-! repr(xs) of a list of ints; a law's def whose body knows that no repr is under way -/
namespace KG
open PySem PySem.Spec PyProof.Rows L2
/-! ### the text of a list of ints -/
def datL (ns : List Int) : PyData := .list (ns.map PyData.int)
def reprL (ns : List Int) : Str := (datL ns).shown
theorem small_log {i : Int} {k : Nat} (h0 : 0 < k) (h : i.natAbs < 2 ^ k) : i.natAbs.log2 < k := PySem.Flt.log2_lt_of h0 h
theorem show_all : ∀ (ns : List Int), (∀ n ∈ ns, n.natAbs < 2 ^ 40) → PyData.showableAll (ns.map PyData.int) = true
  | [], _ => rfl
  | a :: r, h => by
    have h1 : a.natAbs.log2 < 1920 := Nat.lt_of_lt_of_le (small_log (by decide) (h a List.mem_cons_self)) (by decide)
    have h2 := show_all r fun n hn => h n (List.mem_cons_of_mem _ hn)
    simp only [List.map_cons, PyData.showableAll, PyData.showable, h2, h1, decide_true, Bool.and_self]
theorem nodict_all : ∀ (ns : List Int), PyData.hasDictAll (ns.map PyData.int) = false
  | [] => rfl
  | a :: r => by simp only [List.map_cons, PyData.hasDictAll, PyData.hasDict, nodict_all r, Bool.or_self]
theorem depth_all : ∀ (ns : List Int), PyData.depthAll (ns.map PyData.int) ≤ 1
  | [] => Nat.zero_le _
  | a :: r => by
    have := depth_all r
    simp only [List.map_cons, PyData.depthAll, PyData.depth]
    omega
theorem leaves_all : ∀ (ns : List Int), (∀ n ∈ ns, n.natAbs < 10 ^ 12) → PyData.leavesShortAll 13 (ns.map PyData.int) = true
  | [], _ => rfl
  | a :: r, h => by
    have h2 := leaves_all r fun n hn => h n (List.mem_cons_of_mem _ hn)
    have h1 : (PyData.shown (.int a)).length ≤ 13 := by
      have := PySem.int_text_length_le10 (a := a) (k := 12) (by decide) (h a List.mem_cons_self)
      have e : (PyData.shown (.int a)).length = (toString a).length := by
        simp only [PyData.shown]
        exact PySem.ofString_length _
      omega
    simp only [List.map_cons, PyData.leavesShortAll, PyData.leavesShort, h2, Bool.and_true, decide_eq_true_eq]
    exact h1
theorem weight_all : ∀ (ns : List Int), (∀ n ∈ ns, n.natAbs < 2 ^ 39) → PyData.weightAll (ns.map PyData.int) ≤ 60 * ns.length
  | [], _ => Nat.le_refl _
  | a :: r, h => by
    have h1 := weight_all r fun n hn => h n (List.mem_cons_of_mem _ hn)
    have h2 : a.natAbs.log2 < 39 := small_log (by decide) (h a List.mem_cons_self)
    simp only [List.map_cons, PyData.weightAll, PyData.weight, List.length_cons]
    split <;> omega
theorem repr_fits {ns : List Int} (h : ∀ n ∈ ns, n.natAbs < 2 ^ 39) (hl : ns.length ≤ 2000) : (reprL ns).length ≤ sizeLine := by
  refine PyData.shown_fits (B := 13) (by decide) (by decide) ?_ ?_
  · show PyData.leavesShort 13 (.list _) = true
    simp only [PyData.leavesShort, leaves_all ns fun n hn => Nat.lt_trans (h n hn) (by decide)]
  · show PyData.weight (.list _) ≤ _
    have := weight_all ns h
    simp only [PyData.weight]
    omega
theorem reads_all {h : Heap} : ∀ {us : List Value} {ns : List Int}, IntsAre us ns → ReadsAll h us (ns.map PyData.int) []
  | _, _, .nil => .nil
  | _, _, .cons n t r => by
    have z := ReadsAll.cons (Reads.int (h := h) n t) (reads_all r)
    exact z
section
variable {X : Cx}
/-- repr(xs) of a list of ints, while no repr is under way -/
def rReprL (K : PySem.W.Frag) : List V → Hp → VK → Prop := fun vs H Q => ∃ (a : Addr) (ns : List Int), vs = [V.ref a] ∧ SqL K H a (ns.map V.int) ∧ (∀ n ∈ ns, n.natAbs < 2 ^ 39) ∧ ns.length ≤ 2000 ∧ Q (.str (reprL ns)) H
theorem cr_reprL (hg : X.A.guards = some []) (hu : X.A.units + 100 < cLine) : CallR X (.builtin "repr") (rReprL X.K) := by
  intro pins s σ H vs us Q I r h
  obtain ⟨a, ns, rfl, hS, hb, hl, q⟩ := h
  rw [Vals.ref1 r]
  obtain ⟨its, rv, ⟨o, n, ho, hc, hdn, hd⟩, hz⟩ := I.list hS
  have rd : Reads s.heap (.ref a) (datL ns) [a] := .list ho hc hd (reads_all (by simpa using ints_of_vals rv))
  refine repr_of_reads' rd (by show PyData.showable (.list _) = true; simp only [PyData.showable]; exact show_all ns fun m hm => Nat.lt_trans (hb m hm) (by decide)) (PyData.noDict_hsm (by show PyData.hasDict (.list _) = false; simp only [PyData.hasDict]; exact nodict_all ns)) hg
    (by have := depth_all ns; show X.A.units + (PyData.depth (.list _) + 1) < cLine; simp only [PyData.depth]; omega) (fun _ _ e => e) (fun g u tk k => ?_) (repr_fits hb hl)
  exact ⟨.str (reprL ns), H, I.kept k, ⟨u, rfl⟩, q⟩
end
end KG

/-! the def of the law itself, called where no repr is under way -/
namespace KW
open PySem PySem.Spec PyProof.Rows L2
/-- the def at f keeps sp where it is called with no repr under way -/
def Kept (P : Program) (w : World) (K : PySem.W.Frag) (mg : Str → Option Value) (base : Heap) (k : Nat) (f : Addr) (fd : FuncData) (ps : List Str) (sp : Sp) : Prop :=
  ∀ (A : Around) (outer : List Env) (s : Shared) (H : Hp) (args : Args) (us : List Value) (vs : List V) (Q : VK) (E : XK), A.guards = some [] → Room k A → Env0 P w K mg base A outer s H →
    BindsTo s fd args (ps.zip us) → Vals vs us → sp vs H Q E → codeAny (model P w) A (.call (.ref f) args) (CR CX0 outer P w H s Q E) s
section
variable {P : Program} {w : World} {K : PySem.W.Frag} {mg : Str → Option Value} {base : Heap}
theorem kept_of {x qual : Str} {st : Stmt} {f : Addr} {fd : FuncData} {N ps : List Str} {k : Nat} {sp : Sp} (F : Fun K x qual st f fd) (S : FnScope N ps (defScope st)) (len : ∀ vs H Q E, sp vs H Q E → vs.length = ps.length)
    (hb : ∀ (cdv : Value) (A : Around) (outer : List Env) (s : Shared) (H : Hp) (vs : List V) (Q : VK) (E : XK), A.guards = some [] → Room k (A.deeper (envOfC qual (defScope st) s.heap.objs.size f cdv)) → sp vs H Q E →
      ∃ t, PSs (cxOf CX0 P w K mg base N qual (defScope st) f cdv A outer s H E).nox (defBody st) t ∧ t { nx := fun _ H' => Q .non H', rt := Q } (start N vs) H) : Kept P w K mg base (k + 1) f fd ps sp := by
  obtain ⟨oc, od, kV, doc, pm, an, cdv, ct, osl, e1, lk, hcd⟩ := F.ex
  subst e1
  intro A outer s H args us vs Q E hg hr e0 bnd r hsp
  obtain ⟨t, d, q⟩ := hb cdv A outer s H vs Q E hg (hr.deeper _) hsp
  have lv := len _ _ _ _ hsp
  have kin : K.In s.heap := e0.mod.kin.keeps fun b o e => (e0.bs b o e).1
  have kd : ∀ y ∈ ps.zip us, (defScope st).names.lookup y.1 = some .local ∨ ((defScope st).names.lookup y.1 = some .cell ∧ ((cellsFrom (s.heap.objs.size + 1) (defScope st).names []).lookup y.1).isSome = true) := by
    rintro ⟨n, v⟩ hy
    exact (S.par n (List.of_mem_zip hy).1).imp id fun z => ⟨z, PySem.W.cellsFrom_some _ _ _ (.inl z)⟩
  refine codeAny_call_function hr.depth (kin _ _ lk) rfl S.co S.gen rfl (PySem.W.codeRec_of kin hcd) (bnd _ _ _ _ (wpAny_newFunctionEnv_cells S.kind kd fun env he s1 x1 => ?_))
  subst he
  refine ⟨(e0.mod.nolimit.keeps fun b o e => (e0.bs b o e).1).keeps x1.toInCall.keep, codeAny_func (wpAny_mono (d.nox.run [] s1 (start N vs) H _ (inv_start S hr.hd e0 lv r x1) q) (fun fl s2 z => ?_) fun _ _ z => z)⟩
  match fl, z with
  | .ret u, ⟨v, σ2, H2, J, rv, q2⟩ => exact ⟨v, H2, J.os, J.bare, J.base, J.hok, rv, q2⟩
  | .next, ⟨σ2, H2, J, q2⟩ => exact ⟨V.non, H2, J.os, J.bare, J.base, J.hok, rfl, q2⟩
  | .brk, ⟨_, _, _, q2⟩ => exact q2.elim
  | .cont, ⟨_, _, _, q2⟩ => exact q2.elim
/-- the heap that tracks the script alone, or nothing where it is the text's own -/
def hpOf (K : PySem.W.Frag) (a : Addr) (o : Obj) (xs : List V) : Hp := fun b => if b = a ∧ K.lookup a = none then some (.frz o (.lst xs)) else none
theorem hpOf_some {K : PySem.W.Frag} {a b : Addr} {o : Obj} {xs : List V} {u : HO} (e : hpOf K a o xs b = some u) : b = a ∧ K.lookup a = none ∧ u = .frz o (.lst xs) := by
  unfold hpOf at e
  split at e
  · rename_i z
    exact ⟨z.1, z.2, (Option.some.inj e).symm⟩
  · cases e
theorem run_law {mb : Str → Option Value} {k : Nat} {fa a : Addr} {fd : FuncData} {x : Str} {sp : Sp} {s1 : Shared} {vs : List Value} {ns : List Int}
    (kin : K.In s1.heap) (h1 : s1.heap.Ns mainGlobals mg) (h2 : s1.heap.Ns builtinsNs mb) (h3 : ∀ y : Str, y ≠ "__name__" → mb y = bootBuiltins y) (h4 : s1.heap.NoLimit) (h5 : s1.gens = #[])
    (ha : s1.heap.get? a = some { cls := .type "list", data := .seq vs.toArray }) (hi : IntsAre vs ns) (hl : ns.length ≤ sizeLine) (hr : Room k callerA)
    (F : ∀ bs : Heap, K.In bs → bs.Ns mainGlobals mg → Kept P w K mg bs k fa fd [x] sp) (hbd : ∀ (s : Shared) (u : Value), BindsTo s fd ⟨[u], []⟩ [(x, u)])
    (hsp : ∀ H : Hp, Only H → SqL K H a (ns.map V.int) → sp [.ref a] H (fun v _ => v = .bl true) fun _ _ _ => False) :
    codeAny (model P w) callerA (.call (.ref fa) ⟨[.ref a], []⟩) (fun r s' => r = .ok (.ret (.bool true)) ∧ OldK s1.heap s'.heap ∧ s'.os = s1.os ∧ AllBare s'.gens) s1 := by
  have rv := vals_ints hi
  let ob : Obj := { cls := .type "list", data := .seq vs.toArray }
  generalize hH : hpOf K a ob (ns.map V.int) = H
  have hsome : ∀ {b u}, H b = some u → b = a ∧ K.lookup a = none ∧ u = .frz ob (.lst (ns.map V.int)) := fun {b u} e => hpOf_some (by rw [hH]; exact e)
  have hO : Only H := fun b => by
    cases e : H b with
    | none => exact .inl rfl
    | some u => exact .inr ⟨_, _, by rw [(hsome e).2.2]⟩
  have hS : SqL K H a (ns.map V.int) := by
    cases e : K.lookup a with
    | none => exact .inl (.inr ⟨ob, by rw [← hH]; exact if_pos ⟨rfl, e⟩⟩)
    | some o =>
      have e2 := kin a o e
      rw [ha] at e2
      cases e2
      exact .inr ⟨_, vs.toArray, _, e, rfl, rfl, rfl, by rw [List.size_toArray, hi.length]; exact hl, by simpa using rv⟩
  have hok : HOk P w H s1.heap := fun b u e => by
    obtain ⟨rfl, _, rfl⟩ := hsome e
    exact ⟨ha, by rw [List.length_map]; exact hl, vs, _, rv, ha⟩
  have free : ∀ {b : Addr} {o : Obj} {es : Array DictEntry} {ep : Nat}, s1.heap.get? b = some o → o.data = .dict es ep → H b = none := fun {b o es ep} e d => by
    cases z : H b with
    | none => rfl
    | some u =>
      obtain ⟨rfl, _, _⟩ := hsome z
      rw [ha] at e
      cases e
      cases d
  have toB : ∀ {b : Addr} {m : Str → Option Value}, s1.heap.Ns b m → (hidT s1.heap H).Ns b m := fun {b m} ⟨o, es, ep, e, d, r⟩ => ⟨o, es, ep, hidT_get e (free e d), d, r⟩
  have kB : K.In (hidT s1.heap H) := fun b o e => hidT_get (kin b o e) (by
    cases z : H b with
    | none => rfl
    | some u =>
      obtain ⟨rfl, z2, _⟩ := hsome z
      rw [z2] at e
      cases e)
  obtain ⟨mc, m1, m2⟩ := h4
  have e0 : Env0 P w K mg (hidT s1.heap H) callerA [] s1 H := ⟨rfl, ⟨kB, toB h1, ⟨mb, toB h2, h3⟩, ⟨mc, toB m1, m2⟩⟩, fun b o e => of_hidT e, Nat.le_of_eq (hidT_size _ _), trivial, fun b hb => (List.not_mem_nil (show b ∈ ([] : List Addr) from hb)).elim, hok, .of_eq h5⟩
  refine codeAny_mono (F _ kB (toB h1) callerA [] s1 H ⟨[.ref a], []⟩ [.ref a] [.ref a] _ _ rfl hr e0 (hbd s1 (.ref a)) (.cons rfl .nil) (hsp H hO hS)) fun r s2 z => ?_
  match r, z with
  | .error _, z => exact z.elim
  | .ok .next, z => exact z.elim
  | .ok .brk, z => exact z.elim
  | .ok .cont, z => exact z.elim
  | .ok (.ret u), ⟨v, H2, os, bare, un, hok2, rr, q⟩ =>
    have q2 : v = .bl true := q
    subst q2
    obtain rfl : u = Value.bool true := rr
    refine ⟨rfl, OldK.of_keep fun b o e => ?_, os, bare⟩
    cases z : H b with
    | none => exact un.keep b o e z (fun m => (List.not_mem_nil (show b ∈ ([] : List Addr) from m)).elim) (by simp)
    | some u =>
      obtain ⟨_, _, rfl⟩ := hsome z
      have t1 := (hok b _ z).1
      have t2 := (hok2 b _ (un.frzs b ob _ z)).1
      rw [e] at t1
      rw [t2, ← t1]
/-- the end: the law's promise over the written part alone -/
theorem walk_kept {l : PySem.W.OpenLaw} {n k : Nat} {q : Program} {loose : List Str} {XP : (Str → Option Value) → Heap → Prop} {YP : World → Heap → Prop} {d : DefRec} {KK : Params → PySem.W.Frag} {sp : PySem.W.Frag → Sp} {x : Str}
    (hn : l.most = some n) (hn2 : n ≤ sizeLine) (hdf : d.params.defaults = []) (hr : Room k callerA) (hY : ∀ (w : World) (h : Heap), YP w h → (KK w.params).In h)
    (F : ∀ (w : World) (mg : Str → Option Value) (fa : Addr) (h : Heap), (KK w.params).In h → h.Ns mainGlobals mg → mg d.name = some (.ref fa) →
      ∃ fd : FuncData, (∀ (s : Shared) (u : Value), BindsTo s fd ⟨[u], []⟩ [(x, u)]) ∧ ∀ bs : Heap, (KK w.params).In bs → bs.Ns mainGlobals mg → Kept l.prog w (KK w.params) mg bs k fa fd [x] (sp (KK w.params)))
    (hsp : ∀ (K : PySem.W.Frag) (H : Hp) (a : Addr) (ns : List Int), ns.length ≤ n → Only H → SqL K H a (ns.map V.int) → sp K [.ref a] H (fun v _ => v = .bl true) fun _ _ _ => False) :
    PySem.W.WalkO q loose XP YP l.row.toRowW d [] (fun f vs => PySem.call f vs) := by
  refine Att.attach_call hn hdf fun w s0 s1 mg mb fa o pm cd doc a vs ns G Y ho hd hcd hmg hobj hints hlen hg => ?_
  obtain ⟨fd, hb, hF⟩ := F w mg fa _ (hY w _ Y) G.T.g hmg
  exact run_law (hY w _ Y) G.T.g G.T.b G.T.builtins G.T.nolimit hg hobj hints (Nat.le_trans hlen hn2) hr hF hb fun H hO hS => hsp (KK w.params) H a ns hlen hO hS
end
end KW

/-! turning points, as mathematics: the stack's way and the law's way -/
namespace PM
/-- r lies between its neighbours b and a -/
abbrev Btw (r b a : Int) : Prop := (b < r ∧ r < a) ∨ (a < r ∧ r < b)
/-- the stack's way from b, a (a on top) on -/
def tq : Int → Int → List Int → List Int
  | _, a, [] => [a]
  | b, a, r :: l => if a = r then tq b a l else if Btw a b r then tq b r l else a :: tq a r l
def ts : Int → List Int → List Int
  | a, [] => [a]
  | a, r :: l => if a = r then ts a l else a :: tq a r l
def tp : List Int → List Int
  | [] => []
  | x :: l => ts x l
/-- repeated readings once -/
def ddf : Int → List Int → List Int
  | _, [] => []
  | p, x :: l => if x = p then ddf p l else x :: ddf x l
def dd : List Int → List Int
  | [] => []
  | x :: l => x :: ddf x l
/-- the law's way, over readings that differ from their neighbours -/
def lq : Int → Int → List Int → List Int
  | _, c, [] => [c]
  | p, c, d :: l => if (decide (c > p) = decide (c > d)) then c :: lq c d l else lq c d l
def lp : List Int → List Int
  | [] => []
  | [x] => [x]
  | x :: y :: l => x :: lq x y l
theorem tq_lq : ∀ (l : List Int) (b p a : Int), a ≠ b → a ≠ p → (a > b ↔ a > p) → tq b a l = lq p a (ddf a l)
  | [], _, _, _, _, _, _ => rfl
  | r :: l, b, p, a, h1, h2, h3 => by
    simp only [tq, ddf]
    by_cases e : a = r
    · rw [if_pos e, if_pos e.symm]
      exact tq_lq l b p a h1 h2 h3
    · rw [if_neg e, if_neg (show ¬ r = a from fun z => e z.symm)]
      simp only [lq]
      by_cases bt : Btw a b r
      · rw [if_pos bt]
        have hk : ¬ (decide (a > p) = decide (a > r)) := by
          intro z
          rw [decide_eq_decide] at z
          omega
        rw [if_neg hk]
        exact tq_lq l b a r (by omega) (fun z => e z.symm) (by omega)
      · rw [if_neg bt]
        have hk : decide (a > p) = decide (a > r) := by
          rw [decide_eq_decide]
          omega
        rw [if_pos hk]
        rw [tq_lq l a a r (fun z => e z.symm) (fun z => e z.symm) Iff.rfl]
theorem ts_lp : ∀ (l : List Int) (a : Int), ts a l = lp (a :: ddf a l)
  | [], _ => rfl
  | r :: l, a => by
    simp only [ts, ddf]
    by_cases e : a = r
    · rw [if_pos e, if_pos e.symm]
      exact ts_lp l a
    · rw [if_neg e, if_neg (show ¬ r = a from fun z => e z.symm)]
      rw [tq_lq l a a r (fun z => e z.symm) (fun z => e z.symm) Iff.rfl]
      rfl
theorem tp_lp (ns : List Int) : tp ns = lp (dd ns) := by
  cases ns with
  | nil => rfl
  | cons a l => exact ts_lp l a
/-- what the stack leaves, goes through the stack as it is -/
theorem tq_again : ∀ (l : List Int) (b a : Int), a ≠ b → ∃ x s, tq b a l = x :: s ∧ x ≠ b ∧ (x > b ↔ a > b) ∧ tq b x s = x :: s
  | [], b, a, h => ⟨a, [], rfl, h, Iff.rfl, rfl⟩
  | r :: l, b, a, h => by
    simp only [tq]
    by_cases e : a = r
    · rw [if_pos e]
      exact tq_again l b a h
    · rw [if_neg e]
      by_cases bt : Btw a b r
      · rw [if_pos bt]
        obtain ⟨x, s, h1, h2, h3, h4⟩ := tq_again l b r (by omega)
        exact ⟨x, s, h1, h2, by omega, h4⟩
      · rw [if_neg bt]
        obtain ⟨y, s, h1, h2, h3, h4⟩ := tq_again l a r (fun z => e z.symm)
        refine ⟨a, y :: s, by rw [h1], h, Iff.rfl, ?_⟩
        simp only [tq]
        have n1 : ¬ Btw a b y := by
          intro z
          have h6 : r > a ↔ y > a := h3.symm
          omega
        rw [if_neg (fun z : a = y => h2 z.symm), if_neg n1, h4]
theorem ts_again : ∀ (l : List Int) (a : Int), tp (ts a l) = ts a l
  | [], _ => rfl
  | r :: l, a => by
    simp only [ts]
    by_cases e : a = r
    · rw [if_pos e]
      exact ts_again l a
    · rw [if_neg e]
      obtain ⟨x, s, h1, h2, _, h4⟩ := tq_again l a r (fun z => e z.symm)
      rw [h1]
      show ts a (x :: s) = a :: x :: s
      simp only [ts]
      rw [if_neg (fun z : a = x => h2 z.symm), h4]
theorem tp_again (ns : List Int) : tp (tp ns) = tp ns := by
  cases ns with
  | nil => rfl
  | cons a l => exact ts_again l a
theorem tq_last : ∀ (l : List Int) (b a z : Int), (a :: l).getLast? = some z → tq b a (l ++ [z]) = tq b a l
  | [], b, a, z, h => by
    have e : a = z := Option.some.inj h
    subst e
    show tq b a [a] = [a]
    simp only [tq, if_true]
  | r :: l, b, a, z, h => by
    have h2 : (r :: l).getLast? = some z := by rw [List.getLast?_cons_cons] at h; exact h
    show tq b a (r :: (l ++ [z])) = tq b a (r :: l)
    simp only [tq]
    by_cases e : a = r
    · rw [if_pos e, if_pos e]
      subst e
      exact tq_last l b a z h2
    · rw [if_neg e, if_neg e, tq_last l b r z h2, tq_last l a r z h2]
theorem ts_last : ∀ (l : List Int) (a z : Int), (a :: l).getLast? = some z → ts a (l ++ [z]) = ts a l
  | [], a, z, h => by
    have e : a = z := Option.some.inj h
    subst e
    show ts a [a] = [a]
    simp only [ts, if_true]
  | r :: l, a, z, h => by
    have h2 : (r :: l).getLast? = some z := by rw [List.getLast?_cons_cons] at h; exact h
    show ts a (r :: (l ++ [z])) = ts a (r :: l)
    simp only [ts]
    by_cases e : a = r
    · rw [if_pos e, if_pos e]
      subst e
      exact ts_last l a z h2
    · rw [if_neg e, if_neg e, tq_last l a r z h2]
theorem tp_last (ns : List Int) (z : Int) (h : ns.getLast? = some z) : tp (ns ++ [z]) = tp ns := by
  cases ns with
  | nil => simp at h
  | cons a l => exact ts_last l a z h
/-- sizes and bounds -/
theorem tq_mem : ∀ (l : List Int) (b a x : Int), x ∈ tq b a l → x = a ∨ x ∈ l
  | [], _, _, x, h => .inl (List.mem_singleton.mp h)
  | r :: l, b, a, x, h => by
    simp only [tq] at h
    split at h
    · rcases tq_mem l b a x h with z | z
      · exact .inl z
      · exact .inr (List.mem_cons_of_mem _ z)
    · split at h
      · rcases tq_mem l b r x h with z | z
        · rw [z]; exact .inr List.mem_cons_self
        · exact .inr (List.mem_cons_of_mem _ z)
      · rcases List.mem_cons.mp h with z | z
        · exact .inl z
        · rcases tq_mem l a r x z with z | z
          · rw [z]; exact .inr List.mem_cons_self
          · exact .inr (List.mem_cons_of_mem _ z)
theorem tq_len : ∀ (l : List Int) (b a : Int), (tq b a l).length ≤ l.length + 1
  | [], _, _ => Nat.le_refl _
  | r :: l, b, a => by
    have h1 := tq_len l b a
    have h2 := tq_len l b r
    have h3 := tq_len l a r
    simp only [tq, List.length_cons]
    split
    · omega
    · split
      · omega
      · rw [List.length_cons]; omega
theorem ts_mem : ∀ (l : List Int) (a x : Int), x ∈ ts a l → x = a ∨ x ∈ l
  | [], _, x, h => .inl (List.mem_singleton.mp h)
  | r :: l, a, x, h => by
    simp only [ts] at h
    split at h
    · rcases ts_mem l a x h with z | z
      · exact .inl z
      · exact .inr (List.mem_cons_of_mem _ z)
    · rcases List.mem_cons.mp h with z | z
      · exact .inl z
      · rcases tq_mem l a r x z with z | z
        · rw [z]; exact .inr List.mem_cons_self
        · exact .inr (List.mem_cons_of_mem _ z)
theorem ts_len : ∀ (l : List Int) (a : Int), (ts a l).length ≤ l.length + 1
  | [], _ => Nat.le_refl _
  | r :: l, a => by
    have h1 := ts_len l a
    have h2 := tq_len l a r
    simp only [ts, List.length_cons]
    split
    · omega
    · rw [List.length_cons]; omega
theorem tp_mem {ns : List Int} {x : Int} (h : x ∈ tp ns) : x ∈ ns := by
  cases ns with
  | nil => exact h
  | cons a l =>
    rcases ts_mem l a x h with z | z
    · rw [z]; exact List.mem_cons_self
    · exact List.mem_cons_of_mem _ z
theorem tp_len (ns : List Int) : (tp ns).length ≤ ns.length := by
  cases ns with
  | nil => exact Nat.le_refl _
  | cons a l => exact ts_len l a
/-- the swings of turning points -/
def rg (a b : Int) : Int × Int := (if b < a then b else a, if b > a then b else a)
def sw : List Int → List (Int × Int)
  | x :: y :: l => rg x y :: sw (y :: l)
  | _ => []
theorem sw_len : ∀ ps : List Int, (sw ps).length = ps.length - 1
  | [] => rfl
  | [_] => rfl
  | x :: y :: l => by
    have := sw_len (y :: l)
    simp only [sw, List.length_cons] at this ⊢
    omega
theorem sw_take : ∀ (ps : List Int) (i : Nat) (x y : Int), ps[i]? = some x → ps[i + 1]? = some y → (sw ps).take (i + 1) = (sw ps).take i ++ [rg x y]
  | [], _, _, _, h, _ => by simp at h
  | [_], 0, _, _, _, h => by simp at h
  | [_], i + 1, _, _, h, _ => by simp at h
  | a :: b :: l, 0, x, y, h, h2 => by
    have e1 : a = x := Option.some.inj h
    have e2 : b = y := Option.some.inj h2
    subst e1 e2
    rfl
  | a :: b :: l, i + 1, x, y, h, h2 => by
    have ih := sw_take (b :: l) i x y h h2
    show rg a b :: (sw (b :: l)).take (i + 1) = rg a b :: (sw (b :: l)).take i ++ [rg x y]
    rw [ih]
    rfl
theorem sw_mem : ∀ (ps : List Int) (B : Nat), (∀ x ∈ ps, x.natAbs < B) → ∀ r ∈ sw ps, r.1.natAbs < B ∧ r.2.natAbs < B
  | [], _, _, r, h => by simp [sw] at h
  | [_], _, _, r, h => by simp [sw] at h
  | x :: y :: l, B, hb, r, h => by
    rcases List.mem_cons.mp (show r ∈ rg x y :: sw (y :: l) from h) with z | z
    · have h1 := hb x List.mem_cons_self
      have h2 := hb y (List.mem_cons_of_mem _ List.mem_cons_self)
      rw [z]
      unfold rg
      constructor <;> (dsimp only; split <;> assumption)
    · exact sw_mem (y :: l) B (fun x hx => hb x (List.mem_cons_of_mem _ hx)) r z
end PM

/-! points taken out, in any order: one count -/
namespace RM
open PM
/-- of four points in a row, the middle two may be taken out -/
abbrev Taken (a b c d : Int) : Prop := ((rg a b).1 ≤ (rg b c).1 ∧ (rg b c).2 ≤ (rg a b).2) ∧ ((rg c d).1 ≤ (rg b c).1 ∧ (rg b c).2 ≤ (rg c d).2)
/-- up and down by turns -/
def ZZ : List Int → Prop
  | x :: y :: z :: r => ((x < y ∧ z < y) ∨ (y < x ∧ y < z)) ∧ ZZ (y :: z :: r)
  | [x, y] => x ≠ y
  | _ => True
inductive Step : List Int → Int × Int → List Int → Prop
  | here {a b c d : Int} {post : List Int} : Taken a b c d → Step (a :: b :: c :: d :: post) (rg b c) (a :: d :: post)
  | there {x : Int} {p q : List Int} {cy : Int × Int} : Step p cy q → Step (x :: p) cy (x :: q)
theorem ZZ.tail {x : Int} : ∀ {p : List Int}, ZZ (x :: p) → ZZ p
  | [], _ => trivial
  | [_], _ => trivial
  | [y, z], h => by
    have h1 := h.1
    show y ≠ z
    omega
  | y :: z :: u :: r, h => h.2
theorem Step.head {x : Int} {p q : List Int} {cy : Int × Int} (h : Step (x :: p) cy q) : ∃ q', q = x :: q' := by
  cases h with
  | here _ => exact ⟨_, rfl⟩
  | there _ => exact ⟨_, rfl⟩
theorem Step.len {p q : List Int} {cy : Int × Int} (h : Step p cy q) : p.length = q.length + 2 := by
  induction h with
  | here _ => simp only [List.length_cons]
  | there _ ih => simp only [List.length_cons]; omega
theorem rg_up {a b : Int} (h : a < b) : rg a b = (a, b) := by unfold rg; rw [if_neg (by omega), if_pos (by omega)]
theorem rg_down {a b : Int} (h : b < a) : rg a b = (b, a) := by unfold rg; rw [if_pos h, if_neg (by omega)]
/-- among points that go up and down -/
theorem taken_iff {a b c d : Int} (h : ZZ (a :: b :: c :: d :: [])) : Taken a b c d ↔ (a < b ∧ c < b ∧ c < d ∧ a ≤ c ∧ b ≤ d) ∨ (b < a ∧ b < c ∧ d < c ∧ c ≤ a ∧ d ≤ b) := by
  have h1 := h.1
  have h2 := h.2.1
  unfold Taken
  rcases h1 with ⟨x, y⟩ | ⟨x, y⟩
  · have z : c < d := by omega
    rw [rg_up x, rg_down y, rg_up z]
    dsimp only
    omega
  · have z : d < c := by omega
    rw [rg_down x, rg_up y, rg_down z]
    dsimp only
    omega
theorem ZZ.four {a b c d : Int} {r : List Int} (h : ZZ (a :: b :: c :: d :: r)) : ZZ (a :: b :: c :: d :: []) := by
  refine ⟨h.1, h.2.1, ?_⟩
  have := h.2.1
  show c ≠ d
  omega
theorem zz_here {a b c d : Int} : ∀ {post : List Int}, ZZ (a :: b :: c :: d :: post) → Taken a b c d → ZZ (a :: d :: post)
  | [], h, t => by
    rcases (taken_iff h.four).mp t with z | z
    · show a ≠ d
      omega
    · show a ≠ d
      omega
  | e :: r, h, t => by
    have h3 := h.2.2.1
    refine ⟨?_, h.2.2.2⟩
    rcases (taken_iff h.four).mp t with z | z <;> omega
theorem zz_cons {x y : Int} {p : List Int} (h : ZZ (x :: y :: p)) : x ≠ y := by
  cases p with
  | nil => exact h
  | cons z r => have := h.1; omega
theorem ZZ.step {p q : List Int} {cy : Int × Int} (h : Step p cy q) : ZZ p → ZZ q := by
  induction h with
  | here t => exact fun z => zz_here z t
  | @there x p q cy h ih =>
    intro z
    have zq := ih z.tail
    cases h with
    | @here a b c d post t =>
      have z1 := z.1
      have ti := (taken_iff z.tail.four).mp t
      refine ⟨?_, zq⟩
      rcases ti with t | t <;> omega
    | @there y p' q' cy' h' =>
      cases q' with
      | nil =>
        have := h'.len
        exact zz_cons z
      | cons u v =>
        cases p' with
        | nil => have := h'.len; simp at this
        | cons u' v' =>
          obtain ⟨v'', e⟩ := h'.head
          have e1 : u = u' := (List.cons.inj e).1
          subst e1
          exact ⟨z.1, zq⟩
/-- two ways to go on meet again -/
theorem diamond {p p1 : List Int} {c1 : Int × Int} (h1 : Step p c1 p1) : ∀ {p2 : List Int} {c2 : Int × Int}, Step p c2 p2 → ZZ p → (c1 = c2 ∧ p1 = p2) ∨ ∃ p3, Step p1 c2 p3 ∧ Step p2 c1 p3 := by
  have key : ∀ {a b c d : Int} {post : List Int} {p2 : List Int} {c2 : Int × Int}, Taken a b c d → Step (b :: c :: d :: post) c2 p2 → ZZ (a :: b :: c :: d :: post) →
      (rg b c = c2 ∧ a :: d :: post = a :: p2) ∨ ∃ p3, Step (a :: d :: post) c2 p3 ∧ Step (a :: p2) (rg b c) p3 := by
    intro a b c d post p2 c2 t h z
    have t1 := (taken_iff z.four).mp t
    cases h with
    | @here _ _ _ e post' t2 =>
      have t3 := (taken_iff z.tail.four).mp t2
      have ebd : b = d := by omega
      subst ebd
      refine .inl ⟨?_, rfl⟩
      have z1 := z.1
      rcases z1 with ⟨x, y⟩ | ⟨x, y⟩
      · rw [rg_down y, rg_up y]
      · rw [rg_up y, rg_down y]
    | @there _ _ q2 _ h2 =>
      cases h2 with
      | @here _ _ e f post' t2 =>
        have t3 := (taken_iff z.tail.tail.four).mp t2
        have za : ZZ (a :: d :: e :: f :: post') := zz_here z t
        have zb : ZZ (a :: b :: c :: f :: post') := ZZ.step (.there (.there (.here t2))) z
        exact .inr ⟨a :: f :: post', .here ((taken_iff za.four).mpr (by omega)), .here ((taken_iff zb.four).mpr (by omega))⟩
      | @there _ _ q3 _ h3 =>
        obtain ⟨q4, rfl⟩ := h3.head
        exact .inr ⟨a :: d :: q4, .there h3, .here t⟩
  induction h1 with
  | @here a b c d post t =>
    intro p2 c2 h2 z
    cases h2 with
    | here _ => exact .inl ⟨rfl, rfl⟩
    | @there _ _ q2 _ h2 => exact key t h2 z
  | @there x p q cy h1 ih =>
    intro p2 c2 h2 z
    cases h2 with
    | @here a b c d post t =>
      rcases key t h1 z with ⟨e1, e2⟩ | ⟨p3, s1, s2⟩
      · exact .inl ⟨e1.symm, e2.symm⟩
      · exact .inr ⟨p3, s2, s1⟩
    | @there _ _ q2 _ h2 =>
      rcases ih h2 z.tail with ⟨e1, e2⟩ | ⟨p3, s1, s2⟩
      · exact .inl ⟨e1, by rw [e2]⟩
      · exact .inr ⟨x :: p3, .there s1, .there s2⟩
inductive Run : List Int → List (Int × Int) → List Int → Prop
  | nil (p : List Int) : Run p [] p
  | cons {p q r : List Int} {c : Int × Int} {cs : List (Int × Int)} : Step p c q → Run q cs r → Run p (c :: cs) r
/-- nothing can be taken out -/
def NF (p : List Int) : Prop := ∀ c q, ¬ Step p c q
theorem Run.snoc {p q r : List Int} {c : Int × Int} {cs : List (Int × Int)} (h : Run p cs q) (s : Step q c r) : Run p (cs ++ [c]) r := by
  induction h with
  | nil p => exact .cons s (.nil _)
  | cons h1 _ ih => exact .cons h1 (ih s)
theorem Run.zz {p q : List Int} {cs : List (Int × Int)} (h : Run p cs q) : ZZ p → ZZ q := by
  induction h with
  | nil p => exact id
  | cons h1 _ ih => exact fun z => ih (ZZ.step h1 z)
theorem Run.len {p q : List Int} {cs : List (Int × Int)} (h : Run p cs q) : p.length = q.length + 2 * cs.length := by
  induction h with
  | nil p => simp
  | cons h1 _ ih => have := h1.len; rw [List.length_cons]; omega
theorem ends : ∀ (n : Nat) (p : List Int), p.length ≤ n → ∃ cs r, Run p cs r ∧ NF r
  | 0, p, h => ⟨[], p, .nil p, fun c q s => by have := s.len; omega⟩
  | n + 1, p, h => by
    by_cases e : ∃ c q, Step p c q
    · obtain ⟨c, q, s⟩ := e
      have := s.len
      obtain ⟨cs, r, h1, h2⟩ := ends n q (by omega)
      exact ⟨c :: cs, r, .cons s h1, h2⟩
    · exact ⟨[], p, .nil p, fun c q s => e ⟨c, q, s⟩⟩
/-- in whatever order points are taken out, the same cycles and the same rest come out -/
theorem unique : ∀ (n : Nat) (p : List Int), p.length ≤ n → ZZ p → ∀ {cs ds : List (Int × Int)} {r s : List Int}, Run p cs r → NF r → Run p ds s → NF s → r = s ∧ cs.Perm ds := by
  intro n
  induction n with
  | zero =>
    intro p hp z cs ds r s h1 n1 h2 n2
    cases h1 with
    | nil _ => cases h2 with
      | nil _ => exact ⟨rfl, .nil⟩
      | cons s2 _ => exact absurd s2 (n1 _ _)
    | cons s1 _ => have := s1.len; omega
  | succ n ih =>
    intro p hp z cs ds r s h1 n1 h2 n2
    cases h1 with
    | nil _ => cases h2 with
      | nil _ => exact ⟨rfl, .nil⟩
      | cons s2 _ => exact absurd s2 (n1 _ _)
    | @cons _ q1 _ c1 cs' s1 r1 =>
      cases h2 with
      | nil _ => exact absurd s1 (n2 _ _)
      | @cons _ q2 _ c2 ds' s2 r2 =>
        have l1 := s1.len
        have l2 := s2.len
        rcases diamond s1 s2 z with ⟨e1, e2⟩ | ⟨p3, t1, t2⟩
        · subst e1 e2
          obtain ⟨e, pm⟩ := ih q1 (by omega) (ZZ.step s1 z) r1 n1 r2 n2
          exact ⟨e, pm.cons _⟩
        · obtain ⟨es, t, r3, n3⟩ := ends p3.length p3 (Nat.le_refl _)
          obtain ⟨e1, m1⟩ := ih q1 (by omega) (ZZ.step s1 z) r1 n1 (.cons t1 r3) n3
          obtain ⟨e2, m2⟩ := ih q2 (by omega) (ZZ.step s2 z) r2 n2 (.cons t2 r3) n3
          refine ⟨e1.trans e2.symm, ?_⟩
          exact ((m1.cons c1).trans (.swap c2 c1 es)).trans (m2.symm.cons c2)
theorem one_count {p : List Int} (z : ZZ p) {cs ds : List (Int × Int)} {r s : List Int} (h1 : Run p cs r) (n1 : NF r) (h2 : Run p ds s) (n2 : NF s) : r = s ∧ cs.Perm ds := unique p.length p (Nat.le_refl _) z h1 n1 h2 n2
/-! ### the stack's way -/
theorem Step.suffix {p q : List Int} {cy : Int × Int} (h : Step p cy q) (l : List Int) : Step (p ++ l) cy (q ++ l) := by
  induction h with
  | here t => exact .here t
  | there _ ih => exact .there ih
theorem Step.prefix {p q : List Int} {cy : Int × Int} (h : Step p cy q) : ∀ l : List Int, Step (l ++ p) cy (l ++ q)
  | [] => h
  | x :: l => .there (h.prefix l)
theorem step_last {p : List Int} {cy : Int × Int} {q : List Int} (h : Step p cy q) : ∀ {m : List Int} {x : Int}, p = m ++ [x] → (∃ q', Step m cy q' ∧ q = q' ++ [x]) ∨ ∃ pre a b c, p = pre ++ [a, b, c, x] ∧ Taken a b c x := by
  induction h with
  | @here a b c d post t =>
    intro m x e
    rcases List.eq_nil_or_concat post with rfl | ⟨post', y, rfl⟩
    · have e2 : [a, b, c] ++ [d] = m ++ [x] := e
      obtain ⟨_, e4⟩ := List.append_inj' e2 rfl
      have e5 : d = x := (List.cons.inj e4).1
      subst e5
      exact .inr ⟨[], a, b, c, rfl, t⟩
    · have e2 : (a :: b :: c :: d :: post') ++ [y] = m ++ [x] := by rw [← e]; simp
      obtain ⟨e3, e4⟩ := List.append_inj' e2 rfl
      have e5 : y = x := (List.cons.inj e4).1
      subst e5 e3
      exact .inl ⟨a :: d :: post', .here t, by simp⟩
  | @there y p q cy h ih =>
    intro m x e
    cases m with
    | nil =>
      have e2 : p = [] := (List.cons.inj e).2
      subst e2
      cases h
    | cons y' m' =>
      obtain ⟨e1, e2⟩ := List.cons.inj e
      subst e1
      rcases ih e2 with ⟨q', s, e3⟩ | ⟨pre, a, b, c, e3, t⟩
      · exact .inl ⟨y :: q', .there s, by rw [e3]; rfl⟩
      · exact .inr ⟨y :: pre, a, b, c, by rw [e3]; rfl, t⟩
theorem nf_push {m : List Int} {x : Int} (h : NF m) (n : ∀ pre a b c, m ++ [x] = pre ++ [a, b, c, x] → ¬ Taken a b c x) : NF (m ++ [x]) := by
  intro cy q s
  rcases step_last s rfl with ⟨q', s', _⟩ | ⟨pre, a, b, c, e, t⟩
  · exact h _ _ s'
  · exact n pre a b c e t
theorem nf_prefix {m l : List Int} (h : NF (m ++ l)) : NF m := fun cy q s => h _ _ (s.suffix l)
/-- turning points go up and down -/
theorem tq_zz : ∀ (l : List Int) (b a : Int), a ≠ b → ∃ x s, tq b a l = x :: s ∧ (x > b ↔ a > b) ∧ x ≠ b ∧ ZZ (b :: x :: s)
  | [], b, a, h => ⟨a, [], rfl, Iff.rfl, h, fun z => h z.symm⟩
  | r :: l, b, a, h => by
    simp only [tq]
    by_cases e : a = r
    · rw [if_pos e]
      exact tq_zz l b a h
    · rw [if_neg e]
      by_cases bt : Btw a b r
      · rw [if_pos bt]
        obtain ⟨x, s, h1, h2, h3, h4⟩ := tq_zz l b r (by omega)
        exact ⟨x, s, h1, by omega, h3, h4⟩
      · rw [if_neg bt]
        obtain ⟨y, s, h1, h2, h3, h4⟩ := tq_zz l a r (fun z => e z.symm)
        refine ⟨a, y :: s, by rw [h1], Iff.rfl, h, ?_, h4⟩
        have h5 : y > a ↔ r > a := h2
        omega
theorem ts_zz : ∀ (l : List Int) (a : Int), ZZ (ts a l)
  | [], _ => trivial
  | r :: l, a => by
    simp only [ts]
    by_cases e : a = r
    · rw [if_pos e]
      exact ts_zz l a
    · rw [if_neg e]
      obtain ⟨x, s, h1, _, _, h4⟩ := tq_zz l a r (fun z => e z.symm)
      rw [h1]
      exact h4
theorem tp_zz (ns : List Int) : ZZ (tp ns) := by
  cases ns with
  | nil => exact trivial
  | cons a l => exact ts_zz l a
end RM

/-! heaps; the texts of data; a walk over two tuples -/
namespace KA
open PySem PySem.Spec PyProof.Rows L2
theorem same_new {H : Hp} {p : Addr} {o : HO} (h : H p = none) : Same H (upd H p o) := fun b x e => by
  rw [upd_ne (ne_of_none e h)]
  exact e
theorem same_again {H0 H : Hp} {p : Addr} {o : HO} (h : H0 p = none) (s : Same H0 H) : Same H0 (upd H p o) := fun b x e => by
  rw [upd_ne (ne_of_none e h)]
  exact s b x e
theorem SqT_same {K : PySem.W.Frag} {H H' : Hp} {a : Addr} {xs : List V} (e : Same H H') (h : SqT K H a xs) : SqT K H' a xs := by
  rcases h with (h | ⟨o, h⟩) | h
  · exact .inl (.inl (e _ _ h))
  · exact .inl (.inr ⟨o, e _ _ h⟩)
  · exact .inr h
theorem int_at {ns : List Int} {i : Nat} {x : V} (h : (ns.map V.int)[i]? = some x) : ∃ r, ns[i]? = some r ∧ x = .int r := by
  rw [List.getElem?_map] at h
  cases e : ns[i]? with
  | none => rw [e] at h; cases h
  | some r => rw [e] at h; exact ⟨r, rfl, (Option.some.inj h).symm⟩
theorem small3000 {n : Nat} (h : n ≤ 3000) : n < sizeLine := Nat.lt_of_le_of_lt h (by decide)
theorem at_int {ns : List Int} {i : Nat} {r : Int} (h : ns[i]? = some r) : (ns.map V.int)[i]? = some (.int r) := by
  rw [List.getElem?_map, h]
  rfl
end KA
namespace KB
end KB
namespace PH
open PySem PySem.Spec PyProof.Rows L2 KA
/-- a list or a tuple of xs stands at a -/
def Sq (K : PySem.W.Frag) (H : Hp) (a : Addr) (xs : List V) : Prop := SqL K H a xs ∨ SqT K H a xs
theorem Sq.same {K : PySem.W.Frag} {H H' : Hp} {a : Addr} {xs : List V} (h : Sq K H a xs) (e : Same H H') : Sq K H' a xs := h.elim (fun z => .inl (e.seq z)) (fun z => .inr (SqT_same e z))
/-- pairs of ints stand at the refs of xs -/
def PairsAt (H : Hp) : List V → List (Int × Int) → Prop
  | [], [] => True
  | x :: xs, r :: rs => (∃ p, x = .ref p ∧ H p = some (.tup [.int r.1, .int r.2])) ∧ PairsAt H xs rs
  | _, _ => False
theorem PairsAt.same {H H' : Hp} (e : Same H H') : ∀ {xs : List V} {rs : List (Int × Int)}, PairsAt H xs rs → PairsAt H' xs rs
  | [], [], _ => trivial
  | x :: xs, r :: rs, ⟨⟨p, h1, h2⟩, h3⟩ => ⟨⟨p, h1, e _ _ h2⟩, PairsAt.same e h3⟩
  | [], _ :: _, h => h.elim
  | _ :: _, [], h => h.elim
theorem PairsAt.length {H : Hp} : ∀ {xs : List V} {rs : List (Int × Int)}, PairsAt H xs rs → xs.length = rs.length
  | [], [], _ => rfl
  | x :: xs, r :: rs, ⟨_, h3⟩ => by rw [List.length_cons, List.length_cons, PairsAt.length h3]
  | [], _ :: _, h => h.elim
  | _ :: _, [], h => h.elim
theorem PairsAt.append {H : Hp} : ∀ {xs ys : List V} {rs ss : List (Int × Int)}, PairsAt H xs rs → PairsAt H ys ss → PairsAt H (xs ++ ys) (rs ++ ss)
  | [], _, [], _, _, h => h
  | x :: xs, _, r :: rs, _, ⟨h1, h2⟩, h => ⟨h1, PairsAt.append h2 h⟩
  | [], _, _ :: _, _, h, _ => h.elim
  | _ :: _, _, [], _, h, _ => h.elim
theorem PairsAt.take {H : Hp} : ∀ {xs : List V} {rs : List (Int × Int)} (n : Nat), PairsAt H xs rs → PairsAt H (xs.take n) (rs.take n)
  | [], [], n, _ => by simp [PairsAt]
  | x :: xs, r :: rs, 0, _ => trivial
  | x :: xs, r :: rs, n + 1, ⟨h1, h2⟩ => ⟨h1, PairsAt.take n h2⟩
  | [], _ :: _, _, h => h.elim
  | _ :: _, [], _, h => h.elim
theorem PairsAt.get {H : Hp} : ∀ {xs : List V} {rs : List (Int × Int)} {i : Nat} {x : V}, PairsAt H xs rs → xs[i]? = some x → ∃ p a b, x = .ref p ∧ H p = some (.tup [.int a, .int b])
  | x :: xs, r :: rs, 0, y, ⟨⟨p, h1, h2⟩, _⟩, e => ⟨p, r.1, r.2, by rw [← h1]; exact (Option.some.inj e).symm, h2⟩
  | x :: xs, r :: rs, i + 1, y, ⟨_, h⟩, e => PairsAt.get h e
  | [], [], i, y, _, e => by simp at e
  | [], _ :: _, _, _, h, _ => h.elim
  | _ :: _, [], _, _, h, _ => h.elim
/-! ### data -/
def dInts (ns : List Int) : List PyData := ns.map PyData.int
def dPairs (rs : List (Int × Int)) : List PyData := rs.map fun r => .tuple [.int r.1, .int r.2]
theorem dp_ints {K : PySem.W.Frag} {H : Hp} : ∀ ns : List Int, DpAll K H (ns.map V.int) (dInts ns)
  | [] => .nil
  | n :: ns => .cons (.int n) (dp_ints ns)
theorem dp_pairs {K : PySem.W.Frag} {H : Hp} : ∀ {xs : List V} {rs : List (Int × Int)}, PairsAt H xs rs → DpAll K H xs (dPairs rs)
  | [], [], _ => .nil
  | x :: xs, r :: rs, ⟨⟨p, h1, h2⟩, h3⟩ => by
    subst h1
    exact .cons (.tup (SqT.of h2) (.cons (.int _) (.cons (.int _) .nil))) (dp_pairs h3)
  | [], _ :: _, h => h.elim
  | _ :: _, [], h => h.elim
theorem lay_ints : ∀ ns : List Int, PyData.canLayAll0 (dInts ns) = true
  | [] => rfl
  | n :: ns => by
    show (PyData.canLay0 (.int n) && PyData.canLayAll0 (dInts ns)) = true
    rw [lay_ints ns]
    simp only [PyData.canLay0, Bool.and_true]
theorem lay_pairs : ∀ rs : List (Int × Int), PyData.canLayAll0 (dPairs rs) = true
  | [] => rfl
  | r :: rs => by
    show (PyData.canLay0 (.tuple [.int r.1, .int r.2]) && PyData.canLayAll0 (dPairs rs)) = true
    rw [lay_pairs rs]
    simp only [PyData.canLay0, PyData.canLayAll0, Bool.and_true]
theorem depth_pairs : ∀ rs : List (Int × Int), PyData.depthAll (dPairs rs) ≤ 3
  | [] => Nat.zero_le _
  | r :: rs => by
    have h := depth_pairs rs
    show max (PyData.depth (.tuple [.int r.1, .int r.2])) (PyData.depthAll (dPairs rs)) ≤ 3
    simp only [PyData.depth, PyData.depthAll]
    omega
theorem shaped_of {d : PyData} (h1 : d.canLay0 = true) (h2 : d.depth ≤ 64) : SeqAt.shaped d = true := by
  unfold SeqAt.shaped
  rw [h1, decide_eq_true h2]
  rfl
theorem shaped_lst (ns : List Int) : SeqAt.shaped (.list (dInts ns)) = true :=
  shaped_of (by simp only [PyData.canLay0, lay_ints]) (by have := KG.depth_all ns; show PyData.depth (.list (ns.map PyData.int)) ≤ 64; simp only [PyData.depth]; omega)
theorem shaped_tup (ns : List Int) : SeqAt.shaped (.tuple (dInts ns)) = true :=
  shaped_of (by simp only [PyData.canLay0, lay_ints]) (by have := KG.depth_all ns; show PyData.depth (.tuple (ns.map PyData.int)) ≤ 64; simp only [PyData.depth]; omega)
theorem shaped_prs (rs : List (Int × Int)) : SeqAt.shaped (.list (dPairs rs)) = true :=
  shaped_of (by simp only [PyData.canLay0, lay_pairs]) (by have := depth_pairs rs; simp only [PyData.depth]; omega)
theorem eqv_same {d : PyData} (h : SeqAt.shaped d = true) : PyData.eqv d d = true := by
  refine SeqAt.eqv_refl d ?_
  unfold SeqAt.shaped at h
  rw [Bool.and_eq_true] at h
  exact h.1
/-- what repr asks of data -/
structure Nice (d : PyData) : Prop where
  show' : d.showable = true
  dict : d.hasDict = false
  depth : d.depth ≤ 10
  fits : d.shown.length ≤ sizeLine
theorem nice_lst {ns : List Int} (h : ∀ n ∈ ns, n.natAbs < 2 ^ 39) (hl : ns.length ≤ 2000) : Nice (.list (dInts ns)) :=
  ⟨by simp only [PyData.showable]; exact KG.show_all ns fun m hm => Nat.lt_trans (h m hm) (by decide), by simp only [PyData.hasDict]; exact KG.nodict_all ns,
    by have := KG.depth_all ns; show PyData.depth (.list (ns.map PyData.int)) ≤ 10; simp only [PyData.depth]; omega, KG.repr_fits h hl⟩
theorem nice_tup {ns : List Int} (h : ∀ n ∈ ns, n.natAbs < 2 ^ 39) (hl : ns.length ≤ 2000) : Nice (.tuple (dInts ns)) :=
  ⟨by simp only [PyData.showable]; exact KG.show_all ns fun m hm => Nat.lt_trans (h m hm) (by decide), by simp only [PyData.hasDict]; exact KG.nodict_all ns,
    by have := KG.depth_all ns; show PyData.depth (.tuple (ns.map PyData.int)) ≤ 10; simp only [PyData.depth]; omega, by
      refine PyData.shown_fits (B := 13) (by decide) (by decide) ?_ ?_
      · simp only [PyData.leavesShort]
        exact KG.leaves_all ns fun n hn => Nat.lt_trans (h n hn) (by decide)
      · have := KG.weight_all ns h
        show PyData.weight (.tuple (ns.map PyData.int)) ≤ _
        simp only [PyData.weight]
        omega⟩
theorem leaf_int {a : Int} (h : a.natAbs < 2 ^ 39) : PyData.leavesShort 13 (.int a) = true := by
  have := KG.leaves_all [a] fun n hn => by rw [List.mem_singleton.mp hn]; exact Nat.lt_trans h (by decide)
  simpa only [List.map_cons, List.map_nil, PyData.leavesShortAll, Bool.and_true] using this
theorem show_int {a : Int} (h : a.natAbs < 2 ^ 39) : PyData.showable (.int a) = true := by
  have := KG.show_all [a] fun n hn => by rw [List.mem_singleton.mp hn]; exact Nat.lt_trans h (by decide)
  simpa only [List.map_cons, List.map_nil, PyData.showableAll, Bool.and_true] using this
theorem weight_int {a : Int} (h : a.natAbs < 2 ^ 39) : PyData.weight (.int a) + 1 ≤ 60 := by
  have := KG.weight_all [a] fun n hn => by rw [List.mem_singleton.mp hn]; exact h
  simp only [List.map_cons, List.map_nil, PyData.weightAll, List.length_singleton] at this
  omega
theorem pairs_show : ∀ rs : List (Int × Int), (∀ r ∈ rs, r.1.natAbs < 2 ^ 39 ∧ r.2.natAbs < 2 ^ 39) → PyData.showableAll (dPairs rs) = true
  | [], _ => rfl
  | r :: rs, h => by
    have h1 := h r List.mem_cons_self
    show (PyData.showable (.tuple [.int r.1, .int r.2]) && PyData.showableAll (dPairs rs)) = true
    rw [pairs_show rs fun x hx => h x (List.mem_cons_of_mem _ hx)]
    have e1 := show_int h1.1
    have e2 := show_int h1.2
    simp only [PyData.showable, PyData.showableAll] at e1 e2 ⊢
    rw [e1, e2]
    rfl
theorem pairs_dict : ∀ rs : List (Int × Int), PyData.hasDictAll (dPairs rs) = false
  | [] => rfl
  | r :: rs => by
    show (PyData.hasDict (.tuple [.int r.1, .int r.2]) || PyData.hasDictAll (dPairs rs)) = false
    rw [pairs_dict rs]
    simp only [PyData.hasDict, PyData.hasDictAll, Bool.or_self]
theorem pairs_leaves : ∀ rs : List (Int × Int), (∀ r ∈ rs, r.1.natAbs < 2 ^ 39 ∧ r.2.natAbs < 2 ^ 39) → PyData.leavesShortAll 13 (dPairs rs) = true
  | [], _ => rfl
  | r :: rs, h => by
    have h1 := h r List.mem_cons_self
    show (PyData.leavesShort 13 (.tuple [.int r.1, .int r.2]) && PyData.leavesShortAll 13 (dPairs rs)) = true
    rw [pairs_leaves rs fun x hx => h x (List.mem_cons_of_mem _ hx)]
    have e : PyData.leavesShort 13 (.tuple [.int r.1, .int r.2]) = PyData.leavesShortAll 13 [.int r.1, .int r.2] := by simp only [PyData.leavesShort]
    have e' : PyData.leavesShortAll 13 [.int r.1, .int r.2] = (PyData.leavesShort 13 (.int r.1) && (PyData.leavesShort 13 (.int r.2) && true)) := by simp only [PyData.leavesShortAll]
    rw [e, e', leaf_int h1.1, leaf_int h1.2]
    rfl
theorem pairs_weight : ∀ rs : List (Int × Int), (∀ r ∈ rs, r.1.natAbs < 2 ^ 39 ∧ r.2.natAbs < 2 ^ 39) → PyData.weightAll (dPairs rs) ≤ 130 * rs.length
  | [], _ => Nat.le_refl _
  | r :: rs, h => by
    have h1 := h r List.mem_cons_self
    have h2 := pairs_weight rs fun x hx => h x (List.mem_cons_of_mem _ hx)
    have w1 := weight_int h1.1
    have w2 := weight_int h1.2
    have e : PyData.weightAll (dPairs (r :: rs)) = PyData.weight (.tuple [.int r.1, .int r.2]) + 1 + PyData.weightAll (dPairs rs) := by
      show PyData.weightAll (_ :: _) = _
      simp only [PyData.weightAll]
      rfl
    have e2 : PyData.weight (.tuple [.int r.1, .int r.2]) = PyData.weight (.int r.1) + 1 + (PyData.weight (.int r.2) + 1 + 0) := by simp only [PyData.weight, PyData.weightAll]
    rw [e, e2, List.length_cons]
    omega
theorem nice_prs {rs : List (Int × Int)} (h : ∀ r ∈ rs, r.1.natAbs < 2 ^ 39 ∧ r.2.natAbs < 2 ^ 39) (hl : rs.length ≤ 2000) : Nice (.list (dPairs rs)) :=
  ⟨by simp only [PyData.showable]; exact pairs_show rs h, by simp only [PyData.hasDict]; exact pairs_dict rs, by have := depth_pairs rs; simp only [PyData.depth]; omega, by
    refine PyData.shown_fits (B := 13) (by decide) (by decide) ?_ ?_
    · simp only [PyData.leavesShort]
      exact pairs_leaves rs h
    · have := pairs_weight rs h
      simp only [PyData.weight]
      omega⟩
section
variable {X : Cx}
/-- repr of data at an address, while no repr is under way -/
def rReprD (K : PySem.W.Frag) : List V → Hp → VK → Prop := fun vs H Q => ∃ (a : Addr) (d : PyData), vs = [V.ref a] ∧ Dp K H (.ref a) d ∧ Nice d ∧ Q (.str d.shown) H
theorem cr_reprD (hg : X.A.guards = some []) (hu : X.A.units + 100 < cLine) : CallR X (.builtin "repr") (rReprD X.K) := by
  intro pins s σ H vs us Q I r h
  obtain ⟨a, d, rfl, hd, nc, q⟩ := h
  rw [Vals.ref1 r]
  obtain ⟨as, rd⟩ := Dp.reads I d (.ref a) (.ref a) hd rfl
  refine repr_of_reads' rd nc.show' (PyData.noDict_hsm nc.dict) hg (by have := nc.depth; omega) (fun _ _ e => e) (fun g u tk k => ?_) nc.fits
  exact ⟨.str d.shown, H, I.kept k, ⟨u, rfl⟩, q⟩
theorem cr_reprB : CallR X (.builtin "repr") (fun vs H Q => ∃ b : Bool, vs = [V.bl b] ∧ Q (.str (if b = true then "True" else "False")) H) := by
  intro pins s σ H vs us Q I r h
  obtain ⟨b, rfl, q⟩ := h
  obtain ⟨u, rfl, ru⟩ := vals1 r
  cases ru
  exact PySem.P.repr_of_bool ⟨.str _, H, I.tok _, ⟨_, rfl⟩, q⟩
end
section
variable {K : PySem.W.Frag} {a b : Addr} {xs ys : List V}
theorem walk_tups {n : Nat} (hn : n = min xs.length ys.length) : Walk (RZ.ItzT K a b) n (fun H => SqT K H a xs ∧ SqT K H b ys) (YPair (fun i => xs[i]?) (fun i => ys[i]?)) := by
  refine ⟨fun i H hi q => ⟨xs, ys, xs[i]'(by omega), ys[i]'(by omega), q.1, q.2, List.getElem?_eq_getElem (by omega), List.getElem?_eq_getElem (by omega)⟩, fun H q => ⟨xs, ys, q.1, q.2, by omega⟩, fun i H v H' _ q y => ?_⟩
  obtain ⟨T, x, z, h1, h2, h3, h4, h5⟩ := y
  exact ⟨T, x, z, h1, h2, h3, h4 xs q.1, h5 ys q.2⟩
end
/-- two promises of one def -/
theorem both {P : Program} {w : World} {K : PySem.W.Frag} {mg : Str → Option Value} {base : Heap} {CX : CXT} {k : Nat} {f : Addr} {fd : FuncData} {ps : List Str} {sp sp' : Sp}
    (F : FnOk P w K mg base CX k f fd ps sp) (G : FnOk P w K mg base CX k f fd ps sp') : FnOk P w K mg base CX k f fd ps (fun vs H Q E => sp vs H Q E ∨ sp' vs H Q E) :=
  ⟨fun vs H Q E h => h.elim (F.len vs H Q E) (G.len vs H Q E), fun A outer s H args us vs Q E hr e0 hb r h => h.elim (F.run A outer s H args us vs Q E hr e0 hb r) (G.run A outer s H args us vs Q E hr e0 hb r)⟩
end PH

namespace KA
open PySem PySem.Spec PyProof.Rows L2
def topS (i : Nat) : Stmt := PySem.Challenge.pw_wearswings_k96_whole_lists_one_behind_an.main.body.getD i (.Pass ⟨0, 0, 0, 0⟩)
end KA
namespace KD
open PySem PySem.Spec PyProof.Rows L2 KA
abbrev sFeed : Stmt := topS 28
abbrev sTake : Stmt := topS 29
abbrev sPick : Stmt := topS 30
theorem scFeed : FnScope ["script", "k", "cell", "digits", "state"] ["script", "k"] (defScope sFeed) := ⟨rfl, rfl, rfl, by decide +kernel, rfl, by decide +kernel, by decide +kernel⟩
theorem scTake : FnScope ["feed", "many", "digit"] ["feed", "many"] (defScope sTake) := ⟨rfl, rfl, rfl, by decide +kernel, rfl, by decide +kernel, by decide +kernel⟩
theorem scPick : FnScope ["feed", "some"] ["feed", "some"] (defScope sPick) := ⟨rfl, rfl, rfl, by decide +kernel, rfl, by decide +kernel, by decide +kernel⟩
/-- a feed stands at p -/
def FeedAt (H : Hp) (p : Addr) : Prop := ∃ d st : Int, 0 ≤ d ∧ 0 ≤ st ∧ st < 2305843009213693951 ∧ H p = some (.lst [.int d, .int st])
/-- all that was tracked is as it was, but what stands at f -/
def Ch (f : Addr) (H H' : Hp) : Prop := ∀ b o, b ≠ f → H b = some o → H' b = some o
theorem Ch.refl (f : Addr) (H : Hp) : Ch f H H := fun _ _ _ e => e
theorem Ch.trans {f : Addr} {H H1 H2 : Hp} (a : Ch f H H1) (b : Ch f H1 H2) : Ch f H H2 := fun c o n e => b c o n (a c o n e)
theorem Ch.of_same {f : Addr} {H H' : Hp} (s : Same H H') : Ch f H H' := fun c o _ e => s c o e
theorem Ch.put {f : Addr} {H : Hp} {o : HO} : Ch f H (upd H f o) := fun b x n e => by rw [upd_ne n]; exact e
theorem Ch.new {f p : Addr} {H : Hp} {o : HO} (h : H p = none) : Ch f H (upd H p o) := .of_same (same_new h)
theorem Ch.again {f p : Addr} {H0 H : Hp} {o : HO} (h : H0 p = none) (c : Ch f H0 H) : Ch f H0 (upd H p o) := fun b x n e => by
  rw [upd_ne (ne_of_none e h)]
  exact c b x n e
theorem Ch.free {f p : Addr} {H H' : Hp} (c : Ch f H H') (n : p ≠ f) (h : H' p = none) : H p = none := by
  cases e : H p with
  | none => rfl
  | some o =>
    rw [c p o n e] at h
    cases h
theorem Ch.seq {K : PySem.W.Frag} {f : Addr} {H H' : Hp} {a : Addr} {xs : List V} (c : Ch f H H') (n : a ≠ f) (h : SqL K H a xs) : SqL K H' a xs := by
  rcases h with (h | ⟨o, h⟩) | h
  · exact .inl (.inl (c _ _ n h))
  · exact .inl (.inr ⟨o, c _ _ n h⟩)
  · exact .inr h
/-- what stood ahead of the feed is as it was -/
theorem Ch.old {f : Addr} {H0 H H' : Hp} (c : Ch f H H') (hf : H0 f = none) (s : Same H0 H) : Same H0 H' := fun b o e => c b o (ne_of_none e hf) (s b o e)
theorem FeedAt.ne {H : Hp} {f p : Addr} (h : FeedAt H f) (n : H p = none) : p ≠ f := by
  obtain ⟨d, st, _, _, _, e⟩ := h
  exact fun z => by rw [z, e] at n; cases n
theorem FeedAt.upd {H : Hp} {f p : Addr} {o : HO} (h : FeedAt H f) (n : p ≠ f) : FeedAt (upd H p o) f := by
  obtain ⟨d, st, h1, h2, h3, e⟩ := h
  exact ⟨d, st, h1, h2, h3, by rw [upd_ne n.symm]; exact e⟩
theorem FeedAt.same {H H' : Hp} {f : Addr} (h : FeedAt H f) (s : Same H H') : FeedAt H' f := by
  obtain ⟨d, st, h1, h2, h3, e⟩ := h
  exact ⟨d, st, h1, h2, h3, s _ _ e⟩
section
variable {P : Program} {w : World} {K : PySem.W.Frag} {mg : Str → Option Value} {base : Heap}
def spFeed (K : PySem.W.Frag) : Sp := fun vs H Q _ => ∃ (a : Addr) (ns : List Int) (k : Int), vs = [.ref a, .int k] ∧ SqL K H a (ns.map V.int) ∧ 0 ≤ k ∧ k ≤ 100 ∧
  ∀ H' p, Same H H' → H p = none → FeedAt H' p → Q (.ref p) H'
theorem ok_feed {f : Addr} {fd : FuncData} {k : Nat} (F : Fun K "_law_feed" "_law_feed" sFeed f fd) (ml : mg "len" = none) (mm : mg "max" = none) (ma : mg "abs" = none) (mi : mg "int" = none) : FnOk P w K mg base CX0 (k + 1) f fd ["script", "k"] (spFeed K) := by
  refine F.ok scFeed (fun vs H Q E h => ?_) (fun cdv A outer s H vs Q E hr h => ?_)
  · obtain ⟨a, ns, z, rfl, _⟩ := h
    rfl
  · obtain ⟨a, ns, z, rfl, hS, h0, h1, q⟩ := h
    refine ⟨_, pss_cons (ps_set (i := 2) scFeed.nd rfl (.inl rfl) (pe_ifExp (pt_cmpR op_lt (pv 1) (pe_callB call_len_seq (by rfl) ml PySem.boot_len (pa_cons (pv 0) pa_nil)) (nomark _)) (pe_ix ix_list (pv 0) (pv 1) (fun _ _ => rfl)) (pe_op op_add (pe_op op_mul pe_int (pv 1)) pe_int)))
      (pss_cons (ps_set (i := 3) scFeed.nd rfl (.inl rfl) (pe_callB (call_max2 rfl) (by rfl) mm (by decide +kernel) (pa_cons pe_int (pa_cons (pe_op op_sub (pe_callB call_abs (by rfl) ma (by decide +kernel) (pa_cons (pv 2) pa_nil)) (pe_op op_pow pe_int pe_int)) pa_nil))))
      (pss_cons (ps_set (i := 4) scFeed.nd rfl (.inl rfl) (pe_op op_mod (pe_callTy call_int1 (by rfl) mi (by decide +kernel) (pa_cons (pe_op op_add (pe_op op_add (pe_op op_mul (pv 2) pe_int) (pe_op op_mul pe_int (pv 1))) pe_int) pa_nil)) pe_int))
      (pss_one (ps_ret (pe_lst (pa_cons (pv 3) (pa_cons (pv 4) pa_nil))))))), ?_⟩
    refine ⟨.int z, rfl, .ref a, rfl, a, ns.map V.int, rfl, .inl hS, z, _, rfl, rfl, _, rfl, ite2 (fun e => ?_) (fun e => ?_)⟩
    · have hz : z < ((ns.map V.int).length : Nat) := of_decide_eq_true e
      rw [List.length_map] at hz
      obtain ⟨j, rfl⟩ : ∃ j : Nat, z = (j : Int) := ⟨z.toNat, by omega⟩
      have hj : j < ns.length := by omega
      have gj : (ns.map V.int)[j]? = some (.int ns[j]) := by rw [List.getElem?_map, List.getElem?_eq_getElem hj]; rfl
      refine ⟨.ref a, rfl, .int j, rfl, a, _, _, _, rfl, rfl, hS, atI_nat gj, ?_⟩
      refine ⟨_, rfl, _, rfl, 10, 18, rfl, rfl, ⟨by decide, by decide, by decide⟩, _, _, rfl, rfl, 0, _, rfl, ?_⟩
      refine ⟨_, rfl, _, _, rfl, rfl, .inr ⟨by decide, by decide⟩, .int _, rfl, 7919, _, rfl, rfl, .inl ⟨by decide, by decide⟩, _, _, rfl, rfl, _, _, rfl, rfl, .inl ⟨_, rfl, _, _, rfl, rfl, by show (0 : Int) < 2305843009213693951; decide, ?_⟩⟩
      refine ⟨_, rfl, _, rfl, by show 2 ≤ sizeLine; decide, fun p np => q _ p (same_new np) np ⟨_, _, ?_, Int.emod_nonneg _ (by decide), Int.emod_lt_of_pos _ (by decide), upd_same⟩⟩
      split <;> omega
    · refine ⟨.int z, rfl, 83, z, rfl, rfl, .inl ⟨by decide, by decide⟩, _, _, rfl, rfl, ?_⟩
      refine ⟨_, rfl, _, rfl, 10, 18, rfl, rfl, ⟨by decide, by decide, by decide⟩, _, _, rfl, rfl, 0, _, rfl, ?_⟩
      refine ⟨_, rfl, _, _, rfl, rfl, .inr ⟨by decide, by decide⟩, .int _, rfl, 7919, _, rfl, rfl, .inl ⟨by decide, by decide⟩, _, _, rfl, rfl, _, _, rfl, rfl, .inl ⟨_, rfl, _, _, rfl, rfl, by show (0 : Int) < 2305843009213693951; decide, ?_⟩⟩
      refine ⟨_, rfl, _, rfl, by show 2 ≤ sizeLine; decide, fun p np => q _ p (same_new np) np ⟨_, _, ?_, Int.emod_nonneg _ (by decide), Int.emod_lt_of_pos _ (by decide), upd_same⟩⟩
      split <;> omega
def spTake : Sp := fun vs H Q _ => ∃ (f : Addr) (m : Int), vs = [.ref f, .int m] ∧ 0 < m ∧ m < 2 ^ 64 ∧ FeedAt H f ∧ ∀ H' r, Ch f H H' → FeedAt H' f → 0 ≤ r → r < m → Q (.int r) H'
theorem ok_take {f : Addr} {fd : FuncData} {k : Nat} (F : Fun K "_law_take" "_law_take" sTake f fd) (mi : mg "int" = none) : FnOk P w K mg base CX0 (k + 1) f fd ["feed", "many"] spTake := by
  refine F.ok scTake (fun vs H Q E h => ?_) (fun cdv A outer s H vs Q E hr h => ?_)
  · obtain ⟨a, m, rfl, _⟩ := h
    rfl
  · obtain ⟨f, m, rfl, m0, m1, ⟨d, st, d0, t0, t1, hf⟩, q⟩ := h
    refine ⟨_, pss_cons (ps_if (pt_cmpR op_gt (pe_ix ix_list (pv 0) pe_int (fun _ _ => rfl)) pe_int (nomark _))
        (pss_cons (ps_set (i := 2) scTake.nd rfl (.inl rfl) (pe_op op_mod (pe_callTy call_int1 (by rfl) mi (by decide +kernel) (pa_cons (pe_ix ix_list (pv 0) pe_int (fun _ _ => rfl)) pa_nil)) (pv 1)))
          (pss_cons (ps_asg (pe_op op_fdivW (pe_ix ix_list (pv 0) pe_int (fun _ _ => rfl)) (pv 1)) (pg_sub (pv 0) pe_int set_list)) (pss_one (ps_ret (pv 2))))) pss_nil)
      (pss_cons (ps_asg (pe_op op_mod (pe_callTy call_int1 (by rfl) mi (by decide +kernel) (pa_cons (pe_op op_add (pe_op op_mul (pe_ix ix_list (pv 0) pe_int (fun _ _ => rfl)) pe_int) pe_int) pa_nil)) pe_int) (pg_sub (pv 0) pe_int set_list))
      (pss_one (ps_ret (pe_op op_mod (pe_callTy call_int1 (by rfl) mi (by decide +kernel) (pa_cons (pe_op op_fdiv (pe_ix ix_list (pv 0) pe_int (fun _ _ => rfl)) pe_int) pa_nil)) (pv 1))))), ?_⟩
    have a0 : atI [V.int d, V.int st] 0 = some (.int d) := rfl
    have a1 : atI [V.int d, V.int st] 1 = some (.int st) := rfl
    refine ⟨.ref f, rfl, f, _, 0, .int d, rfl, rfl, SqL.of hf, a0, d, 0, rfl, rfl, _, rfl, ite2 (fun e => ?_) (fun e => ?_)⟩
    · have hd : d > 0 := of_decide_eq_true e
      refine ⟨.ref f, rfl, f, _, 0, .int d, rfl, rfl, SqL.of hf, a0, .inl ⟨_, rfl, .int m, rfl, d, m, rfl, rfl, m0, ?_⟩⟩
      refine ⟨.ref f, rfl, f, _, 0, .int d, rfl, rfl, SqL.of hf, a0, .int m, rfl, d, m, rfl, rfl, wide_div (b := 64) m0 (by omega) (by decide) (by decide), ?_⟩
      refine ⟨.ref f, rfl, f, _, 0, 0, rfl, rfl, hf, rfl, .int (d % m), rfl, ?_⟩
      refine q _ _ Ch.put ⟨d / m, st, Int.ediv_nonneg d0 (by omega), t0, t1, upd_same⟩ (Int.emod_nonneg _ (by omega)) (Int.emod_lt_of_pos _ m0)
    · refine ⟨.ref f, rfl, f, _, 1, .int st, rfl, rfl, SqL.of hf, a1, st, 6364136223846793005, rfl, rfl, .inr ⟨by decide, by decide⟩, _, _, rfl, rfl, .inl ⟨_, rfl, _, _, rfl, rfl, by show (0 : Int) < 2305843009213693951; decide, ?_⟩⟩
      refine ⟨.ref f, rfl, f, _, 1, 1, rfl, rfl, hf, rfl, ?_⟩
      refine ⟨.ref f, rfl, f, _, 1, _, rfl, rfl, SqL.of upd_same, rfl, _, 65536, rfl, rfl, ⟨by decide, by decide⟩, .inl ⟨_, rfl, .int m, rfl, _, m, rfl, rfl, m0, ?_⟩⟩
      exact q _ _ Ch.put ⟨d, _, d0, Int.emod_nonneg _ (by decide), Int.emod_lt_of_pos _ (by decide), upd_same⟩ (Int.emod_nonneg _ (by omega)) (Int.emod_lt_of_pos _ m0)
end
end KD

/-! values of many kinds, as data: none, bools, ints, texts, lists, tuples, the empty dict -/
namespace DV
open PySem PySem.Spec PyProof.Rows L2 KA KD PH
mutual
inductive Dv (f : Addr) (H : Hp) : V → PyData → Prop
  | non : Dv f H .non .none
  | bl (b : Bool) : Dv f H (.bl b) (.bool b)
  | int (i : Int) : Dv f H (.int i) (.int i)
  | str (x : Str) : Dv f H (.str x) (.str x)
  | lst {a : Addr} {xs : List V} {ds : List PyData} : a ≠ f → H a = some (.lst xs) → DvAll f H xs ds → Dv f H (.ref a) (.list ds)
  | tup {a : Addr} {xs : List V} {ds : List PyData} : a ≠ f → H a = some (.tup xs) → DvAll f H xs ds → Dv f H (.ref a) (.tuple ds)
  | dic {a : Addr} : a ≠ f → H a = some (.dT []) → Dv f H (.ref a) (.dict [])
inductive DvAll (f : Addr) (H : Hp) : List V → List PyData → Prop
  | nil : DvAll f H [] []
  | cons {v : V} {vs : List V} {d : PyData} {ds : List PyData} : Dv f H v d → DvAll f H vs ds → DvAll f H (v :: vs) (d :: ds)
end
mutual
theorem Dv.ch {f : Addr} {H H' : Hp} (c : Ch f H H') : ∀ (d : PyData) (v : V), Dv f H v d → Dv f H' v d
  | .none, _, h => by cases h; exact .non
  | .bool b, _, h => by cases h; exact .bl b
  | .int i, _, h => by cases h; exact .int i
  | .str x, _, h => by cases h; exact .str x
  | .list ds, _, h => by
    cases h with
    | lst n e a => exact .lst n (c _ _ n e) (DvAll.ch c ds _ a)
  | .tuple ds, _, h => by
    cases h with
    | tup n e a => exact .tup n (c _ _ n e) (DvAll.ch c ds _ a)
  | .dict kvs, _, h => by
    cases h with
    | dic n e => exact .dic n (c _ _ n e)
theorem DvAll.ch {f : Addr} {H H' : Hp} (c : Ch f H H') : ∀ (ds : List PyData) (vs : List V), DvAll f H vs ds → DvAll f H' vs ds
  | [], _, h => by cases h; exact .nil
  | d :: ds, _, h => by
    cases h with
    | cons h1 h2 => exact .cons (Dv.ch c d _ h1) (DvAll.ch c ds _ h2)
end
theorem Dv.same {f : Addr} {H H' : Hp} {d : PyData} {v : V} (h : Dv f H v d) (s : Same H H') : Dv f H' v d := h.ch (.of_same s) _ _
theorem DvAll.same {f : Addr} {H H' : Hp} {d : List PyData} {v : List V} (h : DvAll f H v d) (s : Same H H') : DvAll f H' v d := h.ch (.of_same s) _ _
theorem DvAll.length {f : Addr} {H : Hp} : ∀ {vs : List V} {ds : List PyData}, DvAll f H vs ds → vs.length = ds.length
  | _, _, .nil => rfl
  | _, _, .cons _ h => by rw [List.length_cons, List.length_cons, h.length]
theorem DvAll.at {f : Addr} {H : Hp} : ∀ {vs : List V} {ds : List PyData} {i : Nat} {v : V}, DvAll f H vs ds → vs[i]? = some v → ∃ d, ds[i]? = some d ∧ Dv f H v d
  | _, _, 0, _, .cons h _, e => ⟨_, rfl, by cases e; exact h⟩
  | _, _, i + 1, _, .cons _ h, e => h.at (i := i) e
theorem DvAll.app {f : Addr} {H : Hp} : ∀ {vs us : List V} {ds es : List PyData}, DvAll f H vs ds → DvAll f H us es → DvAll f H (vs ++ us) (ds ++ es)
  | _, _, _, _, .nil, h => h
  | _, _, _, _, .cons h1 h2, h => .cons h1 (h2.app h)
theorem DvAll.take {f : Addr} {H : Hp} : ∀ {vs : List V} {ds : List PyData} (n : Nat), DvAll f H vs ds → DvAll f H (vs.take n) (ds.take n)
  | _, _, 0, _ => .nil
  | _, _, n + 1, .nil => .nil
  | _, _, n + 1, .cons h1 h2 => .cons h1 (h2.take n)
theorem DvAll.drop {f : Addr} {H : Hp} : ∀ {vs : List V} {ds : List PyData} (n : Nat), DvAll f H vs ds → DvAll f H (vs.drop n) (ds.drop n)
  | _, _, 0, h => h
  | _, _, n + 1, .nil => .nil
  | _, _, n + 1, .cons h1 h2 => h2.drop n
theorem DvAll.rev {f : Addr} {H : Hp} : ∀ {vs : List V} {ds : List PyData}, DvAll f H vs ds → DvAll f H vs.reverse ds.reverse
  | _, _, .nil => .nil
  | _, _, .cons h1 h2 => by rw [List.reverse_cons, List.reverse_cons]; exact h2.rev.app (.cons h1 .nil)
theorem dv_ints {f : Addr} {H : Hp} : ∀ ns : List Int, DvAll f H (ns.map V.int) (dInts ns)
  | [] => .nil
  | n :: ns => .cons (.int n) (dv_ints ns)
theorem dv_pairs {f : Addr} {H : Hp} (hf : ∃ l, H f = some (.lst l)) : ∀ {xs : List V} {rs : List (Int × Int)}, PairsAt H xs rs → DvAll f H xs (dPairs rs)
  | [], [], _ => .nil
  | x :: xs, r :: rs, ⟨⟨p, h1, h2⟩, h3⟩ => by
    subst h1
    exact .cons (.tup (fun z => by obtain ⟨l, hf⟩ := hf; rw [z, hf] at h2; cases h2) h2 (.cons (.int _) (.cons (.int _) .nil))) (dv_pairs hf h3)
  | [], _ :: _, h => h.elim
  | _ :: _, [], h => h.elim
mutual
theorem Dv.dp {f : Addr} {H : Hp} {K : PySem.W.Frag} : ∀ (d : PyData) (v : V), Dv f H v d → d.canLay0 = true → Dp K H v d
  | .none, _, h, _ => by cases h; exact .non
  | .bool b, _, h, _ => by cases h; exact .bl b
  | .int i, _, h, _ => by cases h; exact .int i
  | .str x, _, h, _ => by cases h; exact .str x
  | .list ds, _, h, l => by
    cases h with
    | lst n e a => exact .lst (SqL.of e) (DvAll.dp ds _ a (by simpa only [PyData.canLay0] using l))
  | .tuple ds, _, h, l => by
    cases h with
    | tup n e a => exact .tup (SqT.of e) (DvAll.dp ds _ a (by simpa only [PyData.canLay0] using l))
  | .dict kvs, _, h, l => by simp [PyData.canLay0] at l
theorem DvAll.dp {f : Addr} {H : Hp} {K : PySem.W.Frag} : ∀ (ds : List PyData) (vs : List V), DvAll f H vs ds → PyData.canLayAll0 ds = true → DpAll K H vs ds
  | [], _, h, _ => by cases h; exact .nil
  | d :: ds, _, h, l => by
    cases h with
    | cons h1 h2 =>
      have l2 : d.canLay0 = true ∧ PyData.canLayAll0 ds = true := by simpa only [PyData.canLayAll0, Bool.and_eq_true] using l
      exact .cons (Dv.dp d _ h1 l2.1) (DvAll.dp ds _ h2 l2.2)
end
/-! ### their types -/
def tyS : PyData → String
  | .none => "NoneType" | .bool _ => "bool" | .int _ => "int" | .str _ => "str" | .list _ => "list" | .tuple _ => "tuple" | .dict _ => "dict"
theorem Dv.ty {f : Addr} {H : Hp} {K : PySem.W.Frag} {v : V} {d : PyData} (h : Dv f H v d) : TyX K H v (.type (tyS d)) := by
  cases h with
  | non => exact .base .non
  | bl b => exact .base (.bl b)
  | int i => exact .base (.int i)
  | str x => exact .base (.str x)
  | lst _ e _ => exact .base (.lst e)
  | tup _ e _ => exact .base (.tup e)
  | dic _ e => exact .base (.dT e)
def isI : PyData → Bool
  | .int _ => true | .bool _ => true | _ => false
def isB : PyData → Bool
  | .bool _ => true | _ => false
def isT : PyData → Bool
  | .tuple _ => true | _ => false
theorem kit_i {K : PySem.W.Frag} : ∀ d : PyData, PySem.W.kitOne K (.type (tyS d)) (.type "int") = some (isI d)
  | .none => kit_ty (show kitB "NoneType" "int" = some false by decide +kernel)
  | .bool _ => kit_ty (show kitB "bool" "int" = some true by decide +kernel)
  | .int _ => kit_ty (show kitB "int" "int" = some true by decide +kernel)
  | .str _ => kit_ty (show kitB "str" "int" = some false by decide +kernel)
  | .list _ => kit_ty (show kitB "list" "int" = some false by decide +kernel)
  | .tuple _ => kit_ty (show kitB "tuple" "int" = some false by decide +kernel)
  | .dict _ => kit_ty (show kitB "dict" "int" = some false by decide +kernel)
theorem kit_b {K : PySem.W.Frag} : ∀ d : PyData, PySem.W.kitOne K (.type (tyS d)) (.type "bool") = some (isB d)
  | .none => kit_ty (show kitB "NoneType" "bool" = some false by decide +kernel)
  | .bool _ => kit_ty (show kitB "bool" "bool" = some true by decide +kernel)
  | .int _ => kit_ty (show kitB "int" "bool" = some false by decide +kernel)
  | .str _ => kit_ty (show kitB "str" "bool" = some false by decide +kernel)
  | .list _ => kit_ty (show kitB "list" "bool" = some false by decide +kernel)
  | .tuple _ => kit_ty (show kitB "tuple" "bool" = some false by decide +kernel)
  | .dict _ => kit_ty (show kitB "dict" "bool" = some false by decide +kernel)
theorem kit_t {K : PySem.W.Frag} : ∀ d : PyData, PySem.W.kitOne K (.type (tyS d)) (.type "tuple") = some (isT d)
  | .none => kit_ty (show kitB "NoneType" "tuple" = some false by decide +kernel)
  | .bool _ => kit_ty (show kitB "bool" "tuple" = some false by decide +kernel)
  | .int _ => kit_ty (show kitB "int" "tuple" = some false by decide +kernel)
  | .str _ => kit_ty (show kitB "str" "tuple" = some false by decide +kernel)
  | .list _ => kit_ty (show kitB "list" "tuple" = some false by decide +kernel)
  | .tuple _ => kit_ty (show kitB "tuple" "tuple" = some true by decide +kernel)
  | .dict _ => kit_ty (show kitB "dict" "tuple" = some false by decide +kernel)
theorem isi_i {f : Addr} {H : Hp} {K : PySem.W.Frag} {v : V} {d : PyData} {Q : VK} (h : Dv f H v d) (q : Q (.bl (isI d)) H) : rIsi K [v, .ty "int"] H Q := ⟨v, .ty "int", _, .type "int", _, rfl, .ty "int", h.ty, kit_i d, q⟩
theorem isi_b {f : Addr} {H : Hp} {K : PySem.W.Frag} {v : V} {d : PyData} {Q : VK} (h : Dv f H v d) (q : Q (.bl (isB d)) H) : rIsi K [v, .ty "bool"] H Q := ⟨v, .ty "bool", _, .type "bool", _, rfl, .ty "bool", h.ty, kit_b d, q⟩
theorem isi_t {f : Addr} {H : Hp} {K : PySem.W.Frag} {v : V} {d : PyData} {Q : VK} (h : Dv f H v d) (q : Q (.bl (isT d)) H) : rIsi K [v, .ty "tuple"] H Q := ⟨v, .ty "tuple", _, .type "tuple", _, rfl, .ty "tuple", h.ty, kit_t d, q⟩
/-! ### repr -/
section
variable {X : Cx} {pins : List (Addr × Obj)} {σ : L2.St} {H : Hp} {s : Shared} {f : Addr}
mutual
theorem Dv.reads (I : Inv X pins σ H s) : ∀ (d : PyData) (v : V) (u : Value), Dv f H v d → RelV v u → ∃ as, Reads s.heap u d as ∧ (d = .dict [] → sysModules ∉ as)
  | .none, _, _, h, r => by
    cases h
    cases r
    exact ⟨_, Reads.none, fun z => nomatch z⟩
  | .bool b, _, _, h, r => by
    cases h
    cases r
    exact ⟨_, Reads.bool b, fun z => nomatch z⟩
  | .int i, _, _, h, r => by
    cases h
    obtain ⟨t, rfl⟩ := r
    exact ⟨_, Reads.int i t, fun z => nomatch z⟩
  | .str x, _, _, h, r => by
    cases h
    obtain ⟨t, rfl⟩ := r
    exact ⟨_, Reads.str x t, fun z => nomatch z⟩
  | .list ds, _, _, h, r => by
    cases h with
    | lst hn hs ha =>
      cases r
      obtain ⟨its, rv, ⟨o, n, ho, hc, _, hd⟩, _⟩ := I.list (SqL.of hs)
      obtain ⟨as, hr⟩ := DvAll.reads I ds _ its ha rv
      exact ⟨_, Reads.list ho hc hd hr, fun z => nomatch z⟩
  | .tuple ds, _, _, h, r => by
    cases h with
    | tup hn hs ha =>
      cases r
      obtain ⟨its, rv, ⟨o, ho, hc, n, hd⟩, _⟩ := I.tuple (SqT.of hs)
      obtain ⟨as, hr⟩ := DvAll.reads I ds _ its ha rv
      exact ⟨_, Reads.tuple ho hc hd hr, fun z => nomatch z⟩
  | .dict kvs, _, _, h, r => by
    cases h with
    | dic hn hs =>
      cases r
      obtain ⟨_, hd, xs, kt, o, es, ep, h1, h2, h3, h4, h5⟩ := (show ObjOk X.prog X.w H s.heap _ (.dT []) from I.hok _ _ hs)
      cases kt
      have e0 : es = #[] := by
        have : es.size = 0 := by simpa [Paired] using h4
        exact Array.eq_empty_of_size_eq_zero this
      subst e0
      refine ⟨_, Reads.dict h1 h2.1 h3 .nil .nil, fun _ z => ?_⟩
      simp only [List.append_nil, List.mem_singleton] at z
      rw [← z] at hd
      simp at hd
theorem DvAll.reads (I : Inv X pins σ H s) : ∀ (ds : List PyData) (vs : List V) (us : List Value), DvAll f H vs ds → Vals vs us → ∃ as, ReadsAll s.heap us ds as
  | [], _, _, h, r => by
    cases h
    cases r
    exact ⟨_, ReadsAll.nil⟩
  | d :: ds, _, _, h, r => by
    cases h with
    | cons h1 h2 =>
      cases r with
      | cons r1 r2 =>
        obtain ⟨as, q1, _⟩ := Dv.reads I d _ _ h1 r1
        obtain ⟨bs, q2⟩ := DvAll.reads I ds _ _ h2 r2
        exact ⟨_, ReadsAll.cons q1 q2⟩
end
theorem Dv.shows {prog : Program} {w : World} (I : Inv X pins σ H s) {d : PyData} {v : V} {u : Value} (h : Dv f H v d) (r : RelV v u) (hs : d.showable = true) (hd : d.hasDict = false ∨ d = .dict []) (hz : d.shown.length ≤ sizeLine) :
    ∃ as bs, Reads s.heap u d as ∧ ReadAtMost s.heap d.depth bs ∧ ReprK prog w bs s.heap d.depth u d.shown := by
  obtain ⟨as, rd, no⟩ := Dv.reads I d v u h r
  obtain ⟨bs, b1, b2⟩ := ReprK.of_reads (prog := prog) (w := w) rd hs (fun x => hd.elim (fun z => absurd x (by rw [z]; decide)) no) hz
  exact ⟨as, bs, rd, b1, b2⟩
end
/-! ### small data -/
structure It (d : PyData) : Prop where
  sh : d.showable = true
  le : d.leavesShort 13 = true
  de : d.depth ≤ 4
  we : d.weight ≤ 1000
  lay : d.canLay0 = true
structure Tp (d : PyData) : Prop where
  di : d.hasDict = false ∨ d = .dict []
  sh : d.showable = true
  le : d.leavesShort 13 = true
  de : d.depth ≤ 6
  we : d.weight ≤ 200000
theorem it_int {i : Int} (h : i.natAbs < 2 ^ 39) : It (.int i) :=
  ⟨show_int h, leaf_int h, by simp only [PyData.depth]; omega, by have := weight_int h; omega, rfl⟩
theorem it_all : ∀ {ds : List PyData}, (∀ d ∈ ds, It d) → PyData.showableAll ds = true ∧ PyData.leavesShortAll 13 ds = true ∧ PyData.depthAll ds ≤ 4 ∧ PyData.weightAll ds ≤ 1001 * ds.length ∧ PyData.canLayAll0 ds = true
  | [], _ => ⟨rfl, rfl, Nat.zero_le _, Nat.zero_le _, rfl⟩
  | d :: ds, h => by
    obtain ⟨a1, a2, a3, a4, a5⟩ := it_all fun x hx => h x (List.mem_cons_of_mem _ hx)
    obtain ⟨b1, b2, b3, b4, b5⟩ := h d List.mem_cons_self
    simp only [PyData.showableAll, PyData.leavesShortAll, PyData.depthAll, PyData.weightAll, PyData.canLayAll0, List.length_cons, a1, a2, a5, b1, b2, b5, Bool.and_self, true_and, and_true]
    omega
theorem it_pair {a b : Int} (h1 : a.natAbs < 2 ^ 39) (h2 : b.natAbs < 2 ^ 39) : It (.tuple [.int a, .int b]) := by
  have x := it_int h1
  have y := it_int h2
  have w1 := weight_int h1
  have w2 := weight_int h2
  refine ⟨?_, ?_, ?_, ?_, ?_⟩
  · simp only [PyData.showable, PyData.showableAll]
    have a1 := x.sh; have a2 := y.sh
    simp only [PyData.showable] at a1 a2
    rw [a1, a2]; rfl
  · simp only [PyData.leavesShort, PyData.leavesShortAll]
    have a1 := x.le; have a2 := y.le
    simp only [PyData.leavesShort] at a1 a2
    rw [a1, a2]; rfl
  · simp only [PyData.depth, PyData.depthAll]; omega
  · simp only [PyData.weight, PyData.weightAll] at w1 w2 ⊢
    omega
  · rfl
theorem tp_tup {ds : List PyData} (h : ∀ d ∈ ds, It d) (hl : ds.length ≤ 100) : Tp (.tuple ds) := by
  obtain ⟨a1, a2, a3, a4, a5⟩ := it_all h
  refine ⟨.inl (PyData.hasDict_of_canLay _ (by simp only [PyData.canLay0]; exact a5)), ?_, ?_, ?_, ?_⟩
  · simp only [PyData.showable]; exact a1
  · simp only [PyData.leavesShort]; exact a2
  · simp only [PyData.depth]; omega
  · simp only [PyData.weight]; omega
theorem tp_lst {ds : List PyData} (h : ∀ d ∈ ds, It d) (hl : ds.length ≤ 100) : Tp (.list ds) := by
  obtain ⟨a1, a2, a3, a4, a5⟩ := it_all h
  refine ⟨.inl (PyData.hasDict_of_canLay _ (by simp only [PyData.canLay0]; exact a5)), ?_, ?_, ?_, ?_⟩
  · simp only [PyData.showable]; exact a1
  · simp only [PyData.leavesShort]; exact a2
  · simp only [PyData.depth]; omega
  · simp only [PyData.weight]; omega
theorem tp_one {ds : List PyData} (h : ∀ d ∈ ds, It d) (hl : ds.length ≤ 100) : Tp (.tuple [.tuple ds]) := by
  obtain ⟨a1, a2, a3, a4, a5⟩ := it_all h
  refine ⟨.inl (PyData.hasDict_of_canLay _ (by simp only [PyData.canLay0, PyData.canLayAll0, a5, Bool.and_self])), ?_, ?_, ?_, ?_⟩
  · simp only [PyData.showable, PyData.showableAll, a1, Bool.and_self]
  · simp only [PyData.leavesShort, PyData.leavesShortAll, a2, Bool.and_self]
  · simp only [PyData.depth, PyData.depthAll]; omega
  · simp only [PyData.weight, PyData.weightAll]; omega
theorem tp_len {d : PyData} (h : Tp d) : d.shown.length ≤ sizeLine := PyData.shown_fits (B := 13) (by decide) (by decide) h.le (by have := h.we; omega)
theorem tp2_len {d e : PyData} (h : Tp d) (g : Tp e) : (PyData.list [d, e]).shown.length ≤ sizeLine := by
  refine PyData.shown_fits (B := 13) (by decide) (by decide) ?_ ?_
  · simp only [PyData.leavesShort, PyData.leavesShortAll, h.le, g.le, Bool.and_self]
  · have := h.we; have := g.we
    simp only [PyData.weight, PyData.weightAll]; omega
/-- repr of a list of two values -/
def rReprV : List V → Hp → VK → Prop := fun vs H Q => ∃ (f a : Addr) (v1 v2 : V) (d1 d2 : PyData), vs = [V.ref a] ∧ H a = some (.lst [v1, v2]) ∧ Dv f H v1 d1 ∧ Dv f H v2 d2 ∧ Tp d1 ∧ Tp d2 ∧ Q (.str (PyData.list [d1, d2]).shown) H
theorem cr_reprV {X : Cx} (hg : X.A.guards = some []) (hu : X.A.units + 100 < cLine) : CallR X (.builtin "repr") rReprV := by
  intro pins s σ H vs us Q I r h
  obtain ⟨f, a, v1, v2, d1, d2, rfl, ha, h1, h2, t1, t2, q⟩ := h
  rw [Vals.ref1 r]
  obtain ⟨its, rv, ⟨o, n, ho, hc, _, hd⟩, _⟩ := I.list (SqL.of (K := X.K) ha)
  cases rv with
  | cons r1 rv =>
    rename_i u1 us1
    cases rv with
    | cons r2 rv =>
      rename_i u2 us2
      cases rv
      obtain ⟨as1, b1, rd1, m1, k1⟩ := Dv.shows (prog := X.prog) (w := X.w) I h1 r1 t1.sh t1.di (tp_len t1)
      obtain ⟨as2, b2, rd2, m2, k2⟩ := Dv.shows (prog := X.prog) (w := X.w) I h2 r2 t2.sh t2.di (tp_len t2)
      have rd := Reads.list ho hc hd (ReadsAll.cons rd1 (ReadsAll.cons rd2 ReadsAll.nil))
      have hz := tp2_len t1 t2
      have z1 := t1.de
      have z2 := t2.de
      have mm : ReadAtMost s.heap (PyData.depthAll [d1, d2]) (b1 ++ b2) := (m1.mono (by simp only [PyData.depthAll]; omega)).append (m2.mono (by simp only [PyData.depthAll]; omega))
      have hna : a ∉ b1 ++ b2 := not_mem_of_deeper rd (by simp only [PyData.depth]; omega) mm
      have hk : ReprAllK X.prog X.w (b1 ++ b2) s.heap (PyData.depthAll [d1, d2]) [u1, u2] (PyData.shownAll [d1, d2]) := by
        simp only [PyData.shownAll]
        exact .cons ((k1.more fun b hb => List.mem_append_left _ hb).level_le (by simp only [PyData.depthAll]; omega)) (.cons ((k2.more fun b hb => List.mem_append_right _ hb).level_le (by simp only [PyData.depthAll]; omega)) .nil)
      have hz' : (listText (PyData.shownAll [d1, d2])).length ≤ sizeLine := by simpa only [PyData.shown] using hz
      refine call_repr_slot (by omega) ⟨o, ho, hc⟩ F.slot_list_repr.toG ?_
      refine call_list_reprK ho hc hd hna (by simpa using hk.length_eq) (fun i y e => hk.item i y (by simpa using e)) hg (fun b _ => Clear.nil b) (by show X.A.units + 1 + _ < cLine; simp only [PyData.depthAll]; omega) (fun _ _ e => e) ?_ hz'
      intro h' u tk k
      refine ⟨_, _, rfl, .str _, H, I.kept k, ⟨u, ?_⟩, q⟩
      simp only [PyData.shown]
/-! ### what is written -/
section
variable {X : Cx} {f : Addr} {e : Expr} {es : List Expr} {ds : List PyData} {d : PyData} {pos : Pos}
def teD (f : Addr) (d : PyData) : TE := fun _ H Q => FeedAt H f ∧ ∀ v H', Same H H' → Dv f H' v d → Q v H'
def tLits (f : Addr) : List PyData → TA
  | [] => tNil
  | d :: ds => tCons (teD f d) (tLits f ds)
theorem lits : ∀ (ds : List PyData) (σ : L2.St) (H : Hp) (Q : List V → Hp → Prop), FeedAt H f → (∀ vs H', Same H H' → DvAll f H' vs ds → Q vs H') → tLits f ds σ H Q
  | [], σ, H, Q, _, q => q [] H (Same.refl H) .nil
  | d :: ds, σ, H, Q, hf, q => ⟨hf, fun v H1 s1 dv => lits ds σ H1 _ (hf.same s1) fun vs H2 s2 da => q (v :: vs) H2 (s1.trans s2) (.cons (dv.same s2) da)⟩
theorem pe_D {t : TE} (h : PE X e t) (w : ∀ σ H Q, teD f d σ H Q → t σ H Q) : PE X e (teD f d) := ⟨fun pins s σ H Q I q => h.run pins s σ H Q I (w σ H Q q)⟩
theorem pa_nilD : PA X [] (tLits f []) := pa_nil
theorem pa_consD (ha : PE X e (teD f d)) (hr : PA X es (tLits f ds)) (hs : starEach (e :: es) X.env = (false, eval e X.env) :: starEach es X.env := by rfl) : PA X (e :: es) (tLits f (d :: ds)) := pa_cons ha hr hs
theorem pe_tupD {x1} (h : PA X es (tLits f ds)) (z : ds.length ≤ 100 := by decide) : PE X (.Tuple es x1 pos) (teD f (.tuple ds)) := pe_D (pe_tup h) fun σ H Q q => lits ds σ H _ q.1 fun vs H' s da =>
  ⟨Nat.le_of_lt (small3000 (show vs.length ≤ 3000 by rw [da.length]; omega)), fun p np => q.2 _ _ (s.trans (same_new np)) (.tup ((q.1.same s).ne np) upd_same (da.same (same_new np)))⟩
theorem pe_lstD {x1} (h : PA X es (tLits f ds)) (z : ds.length ≤ 100 := by decide) : PE X (.List es x1) (teD f (.list ds)) := pe_D (pe_lst h) fun σ H Q q => lits ds σ H _ q.1 fun vs H' s da =>
  ⟨Nat.le_of_lt (small3000 (show vs.length ≤ 3000 by rw [da.length]; omega)), fun p np => q.2 _ _ (s.trans (same_new np)) (.lst ((q.1.same s).ne np) upd_same (da.same (same_new np)))⟩
theorem pe_intD {i : Int} (h : PE X e (tC (.int i))) : PE X e (teD f (.int i)) := pe_D h fun σ H Q q => q.2 _ _ (Same.refl H) (.int i)
theorem pe_blD {b : Bool} (h : PE X e (tC (.bl b))) : PE X e (teD f (.bool b)) := pe_D h fun σ H Q q => q.2 _ _ (Same.refl H) (.bl b)
theorem pe_strD {x : Str} (h : PE X e (tC (.str x))) : PE X e (teD f (.str x)) := pe_D h fun σ H Q q => q.2 _ _ (Same.refl H) (.str x)
theorem pe_nonD (h : PE X e (tC .non)) : PE X e (teD f .none) := pe_D h fun σ H Q q => q.2 _ _ (Same.refl H) .non
theorem pe_dicD : PE X (.Dict [] [] pos) (teD f (.dict [])) := pe_D pe_dnewT fun σ H Q q p np => q.2 _ _ (same_new np) (.dic (q.1.ne np) upd_same)
end
end DV

/-! places, sorted pairs, the stack's turns -/
namespace RN
open PM RM
def takenAt (ps : List Int) (i : Nat) : Bool := match ps.drop i with
  | a :: b :: c :: d :: _ => decide (Taken a b c d)
  | _ => false
theorem taken_here {ps : List Int} {i : Nat} (h : takenAt ps i = true) : ∃ pre a b c d post, ps = pre ++ a :: b :: c :: d :: post ∧ pre.length = i ∧ Taken a b c d := by
  unfold takenAt at h
  split at h
  · rename_i a b c d post e
    refine ⟨ps.take i, a, b, c, d, post, by rw [← e, List.take_append_drop], ?_, of_decide_eq_true h⟩
    have : (ps.drop i).length = post.length + 4 := by rw [e]; simp
    rw [List.length_drop] at this
    rw [List.length_take]
    omega
  · cases h
theorem taken_get {ps : List Int} {i : Nat} {a b c d : Int} (h0 : ps[i]? = some a) (h1 : ps[i + 1]? = some b) (h2 : ps[i + 2]? = some c) (h3 : ps[i + 3]? = some d) : takenAt ps i = decide (Taken a b c d) := by
  have e : ∀ {j : Nat} {r : Int}, ps[j]? = some r → ps.drop j = r :: ps.drop (j + 1) := fun {j r} h => by
    obtain ⟨k1, k2⟩ := List.getElem?_eq_some_iff.mp h
    rw [List.drop_eq_getElem_cons k1, k2]
  unfold takenAt
  rw [e h0, e h1, e h2, e h3]
theorem taken_lt {ps : List Int} {i : Nat} (h : takenAt ps i = true) : i < ps.length - 3 := by
  obtain ⟨pre, a, b, c, d, post, e, hl, _⟩ := taken_here h
  rw [e]
  simp only [List.length_append, List.length_cons]
  omega
theorem step_at {ps q : List Int} {cy : Int × Int} (h : Step ps cy q) : ∃ i, takenAt ps i = true := by
  induction h with
  | here t => exact ⟨0, decide_eq_true t⟩
  | there _ ih =>
    obtain ⟨i, e⟩ := ih
    exact ⟨i + 1, e⟩
def plc (ps : List Int) : List Int := ((List.range (ps.length - 3)).filter (takenAt ps)).map fun (i : Nat) => (i : Int) + 1
theorem plc_mem {ps : List Int} {x : Int} (h : x ∈ plc ps) : ∃ i : Nat, x = (i : Int) + 1 ∧ takenAt ps i = true := by
  obtain ⟨i, hi, e⟩ := List.mem_map.mp h
  exact ⟨i, e.symm, (List.mem_filter.mp hi).2⟩
theorem nf_of_plc {ps : List Int} (h : plc ps = []) : NF ps := by
  intro c q s
  obtain ⟨i, e⟩ := step_at s
  have : (i : Int) + 1 ∈ plc ps := List.mem_map.mpr ⟨i, List.mem_filter.mpr ⟨List.mem_range.mpr (taken_lt e), e⟩, rfl⟩
  rw [h] at this
  cases this
theorem plc_of_nf {ps : List Int} (h : NF ps) : plc ps = [] := by
  cases e : plc ps with
  | nil => rfl
  | cons x l =>
    have hx : x ∈ plc ps := by rw [e]; exact List.mem_cons_self
    obtain ⟨i, _, t⟩ := plc_mem hx
    obtain ⟨pre, a, b, c, d, post, e2, _, tk⟩ := taken_here t
    rw [e2] at h
    exact absurd ((Step.here tk).prefix pre) (h _ _)
theorem Run.suffix {p q : List Int} {cs : List (Int × Int)} (h : Run p cs q) (l : List Int) : Run (p ++ l) cs (q ++ l) := by
  induction h with
  | nil p => exact .nil _
  | cons s _ ih => exact .cons (s.suffix l) ih
theorem Run.ends {p r : List Int} {cs : List (Int × Int)} (h : Run p cs r) : (cs = [] ∧ p = r) ∨ 2 ≤ r.length := by
  induction h with
  | nil p => exact .inl ⟨rfl, rfl⟩
  | @cons p q r c cs s h ih =>
    refine .inr ?_
    rcases ih with ⟨_, e⟩ | e
    · subst e
      have : ∀ {p q : List Int} {c : Int × Int}, Step p c q → 2 ≤ q.length := by
        intro p q c s
        induction s with
        | here _ => simp only [List.length_cons]; omega
        | there _ ih => simp only [List.length_cons]; omega
      exact this s
    · exact e
theorem tq_zig : ∀ (l : List Int) (b a : Int), ZZ (b :: a :: l) → tq b a l = a :: l
  | [], _, _, _ => rfl
  | r :: l, b, a, z => by
    have h1 := z.1
    simp only [tq]
    rw [if_neg (by omega), if_neg (by omega), tq_zig l a r z.2]
theorem zz_tp {ps : List Int} (z : ZZ ps) : tp ps = ps := by
  match ps, z with
  | [], _ => rfl
  | [x], _ => rfl
  | x :: y :: l, z =>
    show ts x (y :: l) = _
    simp only [ts]
    rw [if_neg (zz_cons z), tq_zig l x y z]
/-- pairs in their order -/
abbrev Le (r s : Int × Int) : Prop := r.1 < s.1 ∨ (r.1 = s.1 ∧ r.2 ≤ s.2)
theorem le_anti {r s : Int × Int} (h1 : Le r s) (h2 : Le s r) : r = s := by
  obtain ⟨a, b⟩ := r
  obtain ⟨c, d⟩ := s
  have e1 : a = c := by simp only [Le] at h1 h2; omega
  have e2 : b = d := by simp only [Le] at h1 h2; omega
  rw [e1, e2]
theorem sorted_same : ∀ {l m : List (Int × Int)}, l.Perm m → l.Pairwise Le → m.Pairwise Le → l = m
  | [], m, h, _, _ => (List.Perm.nil_eq h)
  | x :: l, m, h, h1, h2 => by
    cases m with
    | nil => exact absurd h.length_eq (by simp)
    | cons y m =>
      have hx := List.pairwise_cons.mp h1
      have hy := List.pairwise_cons.mp h2
      have e : x = y := by
        have m1 : x ∈ y :: m := h.mem_iff.mp List.mem_cons_self
        have m2 : y ∈ x :: l := h.mem_iff.mpr List.mem_cons_self
        rcases List.mem_cons.mp m1 with e | e
        · exact e
        · rcases List.mem_cons.mp m2 with e' | e'
          · exact e'.symm
          · exact le_anti (hx.1 y e') (hy.1 x e)
      subst e
      rw [sorted_same ((List.perm_cons x).mp h) hx.2 hy.2]
end RN

/-! lists or tuples of ints: max, min, index, slices; len of a set -/
namespace GU
open PySem PySem.Spec PyProof.Rows L2 KA PH
section
variable {prog : Program} {w : World} {A : Around} {E : Value → Shared → Prop} {s : Shared} {l : Addr} {xs : Array (Int × Tok)}
theorem iter_intTup {Q : Value → Shared → Prop} (hl : s.heap.IsTuple l (intItems xs))
    (h : ∀ s₂ : Shared, s₂ = { s with heap := s.heap.push { cls := .type "tuple_iterator", data := .fields #[.ref l, .int 0 0] } } →
      (s₂.heap.IsTupleIter s.heap.objs.size l 0 ∧ s₂.heap.IsTuple l (intItems xs)) → (∀ b ∈ [s.heap.objs.size, l], b < s₂.heap.objs.size) → l ≠ s.heap.objs.size → Q (.ref s.heap.objs.size) s₂) :
    wpAny (model prog w) A (pyIter (.ref l)) Q E s := by
  have hlt : l < s.heap.objs.size := by obtain ⟨_, e, _⟩ := hl; exact Heap.lt_size e
  refine wpAny_pyIter_tuple hl (h _ rfl ⟨⟨_, Heap.get?_push_size _ rfl, rfl, rfl⟩, hl.push _⟩ (fun b hb => ?_) (Nat.ne_of_lt hlt))
  show b < (s.heap.push _).objs.size
  rw [Heap.size_push]
  rcases List.mem_cons.mp hb with rfl | hb
  · exact Nat.lt_succ_self _
  · rcases List.mem_cons.mp hb with rfl | hb
    · exact Nat.lt_succ_of_lt hlt
    · cases hb
theorem old_keptT {h' : Heap} (hk : ∀ b o, b ∉ [s.heap.objs.size] → (s.heap.push { cls := .type "tuple_iterator", data := .fields #[.ref l, .int 0 0] }).get? b = some o → h'.get? b = some o) :
    ∀ b o, s.heap.get? b = some o → h'.get? b = some o := fun b o e => by
  refine hk b o (fun hm => ?_) (Heap.get?_push_of_some _ e)
  rcases List.mem_cons.mp hm with e1 | hm
  · exact absurd (e1 ▸ Heap.lt_size e) (Nat.lt_irrefl _)
  · cases hm
theorem max_intTup {Q : Value → Shared → Prop} (hh : A.handled = none) (hl : s.heap.IsTuple l (intItems xs)) (hne : 0 < xs.size)
    (h : ∀ v h' tk, (intItems xs)[argBest (fun i j => decide (numAt xs i > numAt xs j)) (xs.size - 1)]? = some v → (∀ b o, s.heap.get? b = some o → h'.get? b = some o) → Q v { s with heap := h', toks := tk }) :
    wpAny (model prog w) A (call (.builtin "max") [.ref l]) Q E s := by
  refine call_max_walk (iter_intTup hl fun s₂ e st hfp hlI => ?_)
  subst e
  refine ⟨_, _, _, _, _, _, _, rfl, Walks.tuple (A := A.in1) hh _ l hlI (intItems xs), st, hfp, by simpa [intItems] using hne, CmpOf.ints_gt (numAt xs) (fun _ _ => intItems_at), fun v h' tk hP hk => ?_⟩
  exact h v h' tk (by simpa [intItems] using hP) (old_keptT hk)
theorem min_intTup {Q : Value → Shared → Prop} (hh : A.handled = none) (hl : s.heap.IsTuple l (intItems xs)) (hne : 0 < xs.size)
    (h : ∀ v h' tk, (intItems xs)[argBest (fun i j => decide (numAt xs i < numAt xs j)) (xs.size - 1)]? = some v → (∀ b o, s.heap.get? b = some o → h'.get? b = some o) → Q v { s with heap := h', toks := tk }) :
    wpAny (model prog w) A (call (.builtin "min") [.ref l]) Q E s := by
  refine call_min_walk (iter_intTup hl fun s₂ e st hfp hlI => ?_)
  subst e
  refine ⟨_, _, _, _, _, _, _, rfl, Walks.tuple (A := A.in1) hh _ l hlI (intItems xs), st, hfp, by simpa [intItems] using hne, CmpOf.ints_lt (numAt xs) (fun _ _ => intItems_at), fun v h' tk hP hk => ?_⟩
  exact h v h' tk (by simpa [intItems] using hP) (old_keptT hk)
end
section
variable {prog : Program} {w : World} {A : Around} {E : Value → Shared → Prop} {s : Shared} {l : Addr} {its : List Value} {ns : List Int} {Q : Value → Shared → Prop}
theorem max_rawT (hh : A.handled = none) (hl : IsTup s.heap l its.toArray) (hi : IntsAre its ns) (hne : 0 < ns.length)
    (h : ∀ h' tk M t', (∀ b o, s.heap.get? b = some o → h'.get? b = some o) → M ∈ ns → (∀ a, a ∈ ns → a ≤ M) → Q (.int M t') { s with heap := h', toks := tk }) : wpAny (model prog w) A (call (.builtin "max") [.ref l]) Q E s := by
  obtain ⟨xs, e⟩ := hi.allInts.items
  have hn : numsOf (intItems xs).toList = ns := by rw [← e]; exact hi.numsOf
  rw [nums_intItems] at hn
  subst hn
  rw [e] at hl
  have hsz : 0 < xs.size := by simpa using hne
  have hl2 : s.heap.IsTuple l (intItems xs) := by
    obtain ⟨o, ho, hc, n, hd⟩ := hl
    exact ⟨o, ho, hc, n, hd⟩
  refine max_intTup hh hl2 hsz fun v h' tk hv hk => ?_
  obtain ⟨t, rfl⟩ := intItems_at hv
  obtain ⟨h1, h2⟩ := argBest_gt (numAt xs) (xs.size - 1)
  refine h h' tk _ t hk ?_ fun a ha => ?_
  · rw [numAt_eq]; exact PySem.getD_mem (by rw [List.length_map, Array.length_toList]; omega)
  · obtain ⟨j, hj, rfl⟩ := mem_getD ha
    rw [List.length_map, Array.length_toList] at hj
    rw [← numAt_eq]; exact h2 j (by omega)
theorem min_rawT (hh : A.handled = none) (hl : IsTup s.heap l its.toArray) (hi : IntsAre its ns) (hne : 0 < ns.length)
    (h : ∀ h' tk M t', (∀ b o, s.heap.get? b = some o → h'.get? b = some o) → M ∈ ns → (∀ a, a ∈ ns → M ≤ a) → Q (.int M t') { s with heap := h', toks := tk }) : wpAny (model prog w) A (call (.builtin "min") [.ref l]) Q E s := by
  obtain ⟨xs, e⟩ := hi.allInts.items
  have hn : numsOf (intItems xs).toList = ns := by rw [← e]; exact hi.numsOf
  rw [nums_intItems] at hn
  subst hn
  rw [e] at hl
  have hsz : 0 < xs.size := by simpa using hne
  have hl2 : s.heap.IsTuple l (intItems xs) := by
    obtain ⟨o, ho, hc, n, hd⟩ := hl
    exact ⟨o, ho, hc, n, hd⟩
  refine min_intTup hh hl2 hsz fun v h' tk hv hk => ?_
  obtain ⟨t, rfl⟩ := intItems_at hv
  obtain ⟨h1, h2⟩ := argBest_lt (numAt xs) (xs.size - 1)
  refine h h' tk _ t hk ?_ fun a ha => ?_
  · rw [numAt_eq]; exact PySem.getD_mem (by rw [List.length_map, Array.length_toList]; omega)
  · obtain ⟨j, hj, rfl⟩ := mem_getD ha
    rw [List.length_map, Array.length_toList] at hj
    rw [← numAt_eq]; exact h2 j (by omega)
end
section
variable {X : Cx}
/-- one of two readings -/
theorem pe_either {e : Expr} {t u : TE} (h : PE X e t) (g : PE X e u) : PE X e (fun σ H Q => t σ H Q ∨ u σ H Q) :=
  ⟨fun pins s σ H Q I q => q.elim (h.run pins s σ H Q I) (g.run pins s σ H Q I)⟩
/-- max(xs), min(xs) of a list or a tuple of ints -/
def rMaxS (K : PySem.W.Frag) : List V → Hp → VK → Prop := fun vs H Q => ∃ (a : Addr) (ns : List Int), vs = [V.ref a] ∧ Sq K H a (ns.map V.int) ∧ 0 < ns.length ∧ ∀ m, m ∈ ns → (∀ y, y ∈ ns → y ≤ m) → Q (.int m) H
def rMinS (K : PySem.W.Frag) : List V → Hp → VK → Prop := fun vs H Q => ∃ (a : Addr) (ns : List Int), vs = [V.ref a] ∧ Sq K H a (ns.map V.int) ∧ 0 < ns.length ∧ ∀ m, m ∈ ns → (∀ y, y ∈ ns → m ≤ y) → Q (.int m) H
theorem cr_maxS (hc : X.calm = true) : CallR X (.builtin "max") (rMaxS X.K) := by
  intro pins s σ H vs us Q I r h
  obtain ⟨a, ns, rfl, hs | hs, hne, q⟩ := h
  · exact cr_max hc pins s σ H _ us Q I r ⟨a, ns, rfl, hs, hne, q⟩
  · obtain ⟨its, rv, hl, _⟩ := I.tuple hs
    rw [Vals.ref1 r]
    exact max_rawT (I.ok.hd hc) hl rv.ints hne fun h' tk m t' hk h1 h2 => ⟨.int _, H, I.kept hk, ⟨_, rfl⟩, q m h1 h2⟩
theorem cr_minS (hc : X.calm = true) : CallR X (.builtin "min") (rMinS X.K) := by
  intro pins s σ H vs us Q I r h
  obtain ⟨a, ns, rfl, hs | hs, hne, q⟩ := h
  · exact cr_min hc pins s σ H _ us Q I r ⟨a, ns, rfl, hs, hne, q⟩
  · obtain ⟨its, rv, hl, _⟩ := I.tuple hs
    rw [Vals.ref1 r]
    exact min_rawT (I.ok.hd hc) hl rv.ints hne fun h' tk m t' hk h1 h2 => ⟨.int _, H, I.kept hk, ⟨_, rfl⟩, q m h1 h2⟩
/-- xs[lo:hi] of a list or a tuple -/
def rSlS (K : PySem.W.Frag) : V → Option Int → Option Int → Hp → VK → Prop := fun x lo hi H Q => ∃ a xs, x = .ref a ∧ Sq K H a xs ∧ ∀ H' p, Same H H' → Sq K H' p (cutV xs lo hi) → Q (.ref p) H'
theorem cut_whole {xs : List V} {lo hi : Option Int} (h : HT.sIx xs.length 0 lo = 0 ∧ HT.sIx xs.length xs.length hi = xs.length) : cutV xs lo hi = xs := by
  unfold cutV
  rw [h.1, h.2, List.drop_zero, Nat.sub_zero, List.take_length]
theorem sl_S : SlR X (rSlS X.K) := by
  intro pins s σ H x v vl vu lo hi sl Q I rx hs pl pu h
  obtain ⟨a, xs, rfl, hS | hS, q⟩ := h
  · exact sl_list pins s σ H _ v vl vu lo hi sl Q I rx hs pl pu ⟨a, xs, rfl, hS, fun p np => q _ p (same_new np) (.inl (SqL.of upd_same))⟩
  · exact sl_tupA pins s σ H _ v vl vu lo hi sl Q I rx hs pl pu ⟨a, xs, rfl, hS, fun w => q H a (Same.refl H) (by rw [cut_whole w]; exact .inr hS), fun _ p np => q _ p (same_new np) (.inr (SqT.of upd_same))⟩
/-- xs.index(y) of ints -/
def rIdxL (K : PySem.W.Frag) : V → List V → Hp → VK → Prop := fun x xs H Q => ∃ (a : Addr) (ns : List Int) (y : Int) (j : Nat), x = V.ref a ∧ xs = [V.int y] ∧ SqL K H a (ns.map V.int) ∧ ns[j]? = some y ∧ (∀ m z, m < j → ns[m]? = some z → z ≠ y) ∧ Q (.int (j : Nat)) H
def rIdxT (K : PySem.W.Frag) : V → List V → Hp → VK → Prop := fun x xs H Q => ∃ (a : Addr) (ns : List Int) (y : Int) (j : Nat), x = V.ref a ∧ xs = [V.int y] ∧ SqT K H a (ns.map V.int) ∧ ns[j]? = some y ∧ (∀ m z, m < j → ns[m]? = some z → z ≠ y) ∧ Q (.int (j : Nat)) H
theorem flat_ints (ns : List Int) : (ns.map V.int).all flatV = true := by
  rw [List.all_map]
  exact List.all_eq_true.mpr fun _ _ => rfl
theorem mt_idxL : MtR X "list.index" (rIdxL X.K) := by
  intro pins s σ H x xs v us Q I rx rxs h
  obtain ⟨a, ns, y, j, rfl, rfl, hs, hy, hno, q⟩ := h
  refine mt_index pins s σ H _ _ v us Q I rx rxs ⟨a, ns.map V.int, .int y, j, .int y, rfl, rfl, hs, rfl, flat_ints ns, at_int hy, beq_self_eq_true y, fun m z hm hz => ?_, q⟩
  obtain ⟨r, hr, rfl⟩ := int_at hz
  exact beq_eq_false_iff_ne.mpr (hno m r hm hr)
theorem mt_idxT : MtR X "tuple.index" (rIdxT X.K) := by
  intro pins s σ H x xs v us Q I rx rs h
  obtain ⟨p, ys, z, j, rfl, rfl, hq, hy, hno, q⟩ := h
  cases rx
  obtain ⟨u, rfl, t, rfl⟩ := vals1 rs
  obtain ⟨its, r, pl, hz⟩ := I.tuple hq
  obtain ⟨⟨cls, dd, dt, sl⟩, ho, hc, n, hd⟩ := pl
  simp only at hc hd
  subst hc
  subst hd
  have hl : its.toArray.size = ys.length := by rw [List.size_toArray, ← r.length, List.length_map]
  have hj : j < its.toArray.size := by rw [hl]; exact (List.getElem?_eq_some_iff.mp hy).1
  have at' : ∀ (m : Nat) (hm : m < its.toArray.size), ∃ y t', ys[m]? = some y ∧ its.toArray[m] = Value.int y t' := fun m hm => by
    have hm' : m < ys.length := by rw [← hl]; exact hm
    obtain ⟨w, hw, t', hw'⟩ := r.get (i := m) (x := .int ys[m]) (by simp [hm'])
    refine ⟨ys[m], t', List.getElem?_eq_getElem hm', ?_⟩
    have e := (List.getElem?_eq_some_iff.mp hw).2
    rw [← hw', ← e]
    simp
  refine call_meets PySem.F.slot_tuple_index ⟨_, ho, rfl⟩ PySem.F.entry_tuple_index (PySem.F.args_tuple_index_2 _ _) (TI.tuple_indexAt p its.toArray n dd sl (.int z t) (eqU (.int z)) j hj ?_ ?_)
    ⟨ho, fun w hw => mem_eqAt (x := .int z) ⟨t, rfl⟩ rfl r (flat_ints ys) w (by simpa using hw), ⟨.int (j : Nat), H, I.tok _, ⟨_, rfl⟩, q⟩⟩
  · obtain ⟨y, t', h1, h2⟩ := at' j hj
    rw [hy] at h1
    cases h1
    rw [h2]
    show (z == z) = true
    exact beq_self_eq_true z
  · intro m hm hmj
    obtain ⟨y, t', h1, h2⟩ := at' m hm
    rw [h2]
    show (y == z) = false
    exact beq_eq_false_iff_ne.mpr (hno m y hmj h1)
/-- len(s) of a set of ints -/
def rLenSet (w : World) : List V → Hp → VK → Prop := fun vs H Q => ∃ (a : Addr) (S : Int → Bool) (n : Nat), vs = [V.ref a] ∧ H a = some (SetO w a S n) ∧ n < 2 ^ 40 ∧ ((∃ ks : List Int, ks.Nodup ∧ ks.length = n ∧ ∀ k, k ∈ ks ↔ S k = true) → Q (.int (n : Nat)) H)
theorem cr_lenSet : CallR X (.builtin "len") (rLenSet X.w) := by
  intro pins s σ H vs us Q I r h
  obtain ⟨a, S, n, rfl, ha, hn, q⟩ := h
  rw [Vals.ref1 r]
  obtain ⟨o, es, ep, t, ho, hex, hd, h1, h2, h3, h4, hf, hsz, _⟩ := setO_get I ha
  refine call_len_set ho hex hd hf (by omega) ⟨.int (n : Nat), H, I.tok _, ⟨_, by rw [hsz]⟩, q ⟨es.toList.map keyOf, h2, by rw [List.length_map, Array.length_toList, hsz], fun k => (h3 k).symm⟩⟩
end
end GU

/-! lists in ascending order -/
namespace BO
open PySem PySem.Spec PyProof.Rows L2 KA PH PM RM RN
abbrev sPI : Stmt := topS 12
abbrev sPT : Stmt := topS 13
theorem scPI : FnScope ["row", "value", "start", "end", "middle"] ["row", "value"] (defScope sPI) := ⟨rfl, rfl, rfl, by decide +kernel, rfl, by decide +kernel, by decide +kernel⟩
theorem scPT : FnScope ["row", "value"] ["row", "value"] (defScope sPT) := ⟨rfl, rfl, rfl, by decide +kernel, rfl, by decide +kernel, by decide +kernel⟩
abbrev Lt (r s : Int × Int) : Prop := r.1 < s.1 ∨ (r.1 = s.1 ∧ r.2 < s.2)
theorem lex_iff (r s : Int × Int) : HT.lexLt [r.1, r.2] [s.1, s.2] = decide (Lt r s) := by
  by_cases h : r.1 = s.1
  · by_cases g : r.2 = s.2
    · have : ¬ Lt r s := by simp only [Lt]; omega
      rw [decide_eq_false this]
      simp [HT.lexLt, h, g]
    · have : decide (Lt r s) = decide (r.2 < s.2) := by rw [decide_eq_decide]; simp only [Lt]; omega
      rw [this]
      simp [HT.lexLt, h, g]
  · have : decide (Lt r s) = decide (r.1 < s.1) := by rw [decide_eq_decide]; simp only [Lt]; omega
    rw [this]
    simp [HT.lexLt, h]
theorem nlt_le {r s : Int × Int} : ¬ Lt r s ↔ Le s r := by simp only [Lt, Le]; omega
theorem le_trans {r s t : Int × Int} (h : Le r s) (g : Le s t) : Le r t := by simp only [Le] at *; omega
theorem lt_le {r s : Int × Int} (h : Lt r s) : Le r s := by simp only [Lt, Le] at *; omega
theorem le_lt {r s t : Int × Int} (h : Le r s) (g : Lt s t) : Lt r t := by simp only [Lt, Le] at *; omega
/-- the place of c in a row -/
def PlaceOf (rs : List (Int × Int)) (c : Int × Int) (i : Nat) : Prop := i ≤ rs.length ∧ (∀ j r, j < i → rs[j]? = some r → Lt r c) ∧ ∀ j r, i ≤ j → rs[j]? = some r → Le c r
theorem place_sorted {rs : List (Int × Int)} {c : Int × Int} {i : Nat} (srt : rs.Pairwise Le) (h : PlaceOf rs c i) : (rs.take i ++ [c] ++ rs.drop i).Pairwise Le := by
  obtain ⟨h0, h1, h2⟩ := h
  have e : rs = rs.take i ++ rs.drop i := (List.take_append_drop i rs).symm
  have s2 := srt
  rw [e] at s2
  obtain ⟨p1, p2, p3⟩ := List.pairwise_append.mp s2
  refine List.pairwise_append.mpr ⟨List.pairwise_append.mpr ⟨p1, List.pairwise_singleton _ _, fun a ha b hb => ?_⟩, p2, fun a ha b hb => ?_⟩
  · rw [List.mem_singleton.mp hb]
    obtain ⟨j, hj, rfl⟩ := List.mem_iff_getElem.mp ha
    rw [List.length_take] at hj
    refine lt_le (h1 j _ (by omega) ?_)
    rw [List.getElem_take]
    exact List.getElem?_eq_getElem _
  · rcases List.mem_append.mp ha with z | z
    · exact p3 a z b hb
    · rw [List.mem_singleton.mp z]
      obtain ⟨j, hj, rfl⟩ := List.mem_iff_getElem.mp hb
      rw [List.length_drop] at hj
      refine h2 (i + j) _ (by omega) ?_
      rw [List.getElem_drop]
      exact List.getElem?_eq_getElem _
theorem pairs_ins {H : Hp} {v : Addr} {c : Int × Int} (hv : H v = some (.tup [.int c.1, .int c.2])) {xs : List V} {rs : List (Int × Int)} (h : PairsAt H xs rs) (i : Nat) : PairsAt H (xs.take i ++ [.ref v] ++ xs.drop i) (rs.take i ++ [c] ++ rs.drop i) := by
  have t : ∀ (i : Nat) {xs : List V} {rs : List (Int × Int)}, PairsAt H xs rs → PairsAt H (xs.take i) (rs.take i) ∧ PairsAt H (xs.drop i) (rs.drop i) := by
    intro i
    induction i with
    | zero => intro xs rs h; exact ⟨trivial, h⟩
    | succ i ih =>
      intro xs rs h
      cases xs with
      | nil => cases rs with
        | nil => exact ⟨trivial, trivial⟩
        | cons _ _ => exact h.elim
      | cons x xs => cases rs with
        | nil => exact h.elim
        | cons r rs =>
          obtain ⟨a, b⟩ := ih h.2
          exact ⟨⟨h.1, a⟩, b⟩
  obtain ⟨a, b⟩ := t i h
  exact (a.append (show PairsAt H [.ref v] [c] from ⟨⟨v, rfl, hv⟩, trivial⟩)).append b
theorem perm_ins {α : Type} (xs : List α) (c : α) (i : Nat) : (xs.take i ++ [c] ++ xs.drop i).Perm (c :: xs) := by
  have h : (xs.take i ++ [c] ++ xs.drop i).Perm ([c] ++ xs.take i ++ xs.drop i) := List.Perm.append_right _ List.perm_append_comm
  refine h.trans ?_
  rw [List.append_assoc, List.take_append_drop]
  exact List.Perm.refl _
theorem pair_get {H : Hp} {xs : List V} {rs : List (Int × Int)} (h : PairsAt H xs rs) {i : Nat} {r : Int × Int} (hr : rs[i]? = some r) : ∃ p, xs[i]? = some (.ref p) ∧ H p = some (.tup [.int r.1, .int r.2]) := by
  induction xs generalizing rs i with
  | nil => cases rs with
    | nil => cases hr
    | cons _ _ => exact h.elim
  | cons y xs ih =>
    cases rs with
    | nil => exact h.elim
    | cons q rs =>
      obtain ⟨⟨p, e, hp⟩, h2⟩ := h
      cases i with
      | zero =>
        have : q = r := Option.some.inj hr
        subst this
        exact ⟨p, by rw [← e]; rfl, hp⟩
      | succ i => exact ih h2 hr
section
variable {P : Program} {w : World} {K : PySem.W.Frag} {mg : Str → Option Value} {base : Heap}
def spPI : Sp := fun vs H Q _ => ∃ (row v : Addr) (xs : List V) (rs : List (Int × Int)) (c : Int × Int), vs = [.ref row, .ref v] ∧ H row = some (.lst xs) ∧ PairsAt H xs rs ∧ rs.Pairwise Le ∧ H v = some (.tup [.int c.1, .int c.2]) ∧ rs.length ≤ 2500 ∧ ∀ i : Nat, PlaceOf rs c i → Q (.int i) H
theorem ok_PI {f : Addr} {fd : FuncData} {k : Nat} (F : Fun K "place_in" "place_in" sPI f fd) (ml : mg "len" = none) : FnOk P w K mg base CX0 (k + 1) f fd ["row", "value"] spPI := by
  refine F.ok scPI (fun vs H Q E h => ?_) (fun cdv A outer s H vs Q E hr h => ?_)
  · obtain ⟨row, v, xs, rs, c, rfl, _⟩ := h
    rfl
  · obtain ⟨row, v, xs, rs, c, rfl, hx, pa, srt, hv, hl, hq⟩ := h
    have hu : (A.deeper (envOfC "place_in" (defScope sPI) s.heap.objs.size f cdv)).units < cLine := by have := hr.un; omega
    refine ⟨_, pss_cons (ps_par (i := 2) (j := 3) (by rfl) scPI.nd rfl rfl (by decide) rfl rfl (pa_cons pe_int (pa_cons (pe_callB call_len_seq (by rfl) ml PySem.boot_len (pa_cons (pv 0) pa_nil)) pa_nil)) (by rfl))
      (pss_cons (ps_while PassesOwn.never (pt_cmpR op_lt (pv 2) (pv 3) (nomark _))
        (pss_cons (ps_set (i := 4) scPI.nd rfl (.inl rfl) (pe_op op_fdiv (pe_op op_add (pv 2) (pv 3)) pe_int))
        (pss_one (ps_if (pt_cmpR (op_ltT hu) (pe_ix ix_list (pv 0) (pv 4) (fun _ _ => rfl)) (pv 1) (nomark _)) (pss_one (ps_set (i := 2) scPI.nd rfl (.inl rfl) (pe_op op_add (pv 4) pe_int))) (pss_one (ps_set (i := 3) scPI.nd rfl (.inl rfl) (pv 4)))))))
      (pss_one (ps_ret (pv 2)))), ?_⟩
    have xl := pa.length
    refine ⟨.ref row, rfl, row, xs, rfl, .inl (SqL.of hx), .int 0, .int xs.length, rfl, ?_⟩
    refine ⟨fun n σ Hx => Hx = H ∧ ∃ (st en : Nat) (r4 : Option V), n = en - st ∧ st ≤ en ∧ en ≤ rs.length ∧ σ = [some (.ref row), some (.ref v), some (.int st), some (.int en), r4] ∧ (∀ j r, j < st → rs[j]? = some r → Lt r c) ∧ ∀ j r, en ≤ j → rs[j]? = some r → Le c r,
      ⟨_, rfl, 0, rs.length, _, rfl, Nat.zero_le _, Nat.le_refl _, by rw [xl]; rfl, fun j r h => absurd h (Nat.not_lt_zero _), fun j r h e => by
        have := (List.getElem?_eq_some_iff.mp e).1
        omega⟩, ?_⟩
    rintro n σ Hx ⟨rfl, st, en, r4, rfl, h1, h2, rfl, h3, h4⟩
    refine ⟨.int st, rfl, .int en, rfl, st, en, rfl, rfl, _, rfl, ?_⟩
    by_cases lt : st < en
    · rw [decide_eq_true (show (st : Int) < (en : Int) by omega)]
      refine iteT ?_
      refine ⟨fun σ Hy => ∃ m', m' < en - st ∧ Hy = Hx ∧ ∃ (st en : Nat) (r4 : Option V), m' = en - st ∧ st ≤ en ∧ en ≤ rs.length ∧ σ = [some (.ref row), some (.ref v), some (.int st), some (.int en), r4] ∧ (∀ j r, j < st → rs[j]? = some r → Lt r c) ∧ ∀ j r, en ≤ j → rs[j]? = some r → Le c r, fun _ _ z => z, ?_⟩
      have em : ((st : Int) + (en : Int)) / 2 = (((st + en) / 2 : Nat) : Int) := by omega
      refine ⟨.int st, rfl, .int en, rfl, st, en, rfl, rfl, _, 2, rfl, rfl, ⟨by decide, by decide⟩, ?_⟩
      show gName 4 (V.int (((st : Int) + (en : Int)) / 2)) _ _ _
      rw [em]
      generalize hmid : (st + en) / 2 = mid
      have b1 : st ≤ mid ∧ mid < en := by omega
      obtain ⟨r, hr2⟩ : ∃ r, rs[mid]? = some r := ⟨_, List.getElem?_eq_getElem (by omega)⟩
      obtain ⟨p, hp1, hp2⟩ := pair_get pa hr2
      refine ⟨.ref row, rfl, .int mid, rfl, row, xs, mid, .ref p, rfl, rfl, SqL.of hx, atI_nat hp1, .ref v, rfl, p, v, [r.1, r.2], [c.1, c.2], rfl, rfl, SqT.of hp2, SqT.of hv, _, rfl, ?_⟩
      rw [lex_iff]
      by_cases l : Lt r c
      · rw [decide_eq_true l]
        refine iteT ⟨.int mid, rfl, mid, 1, rfl, rfl, en - (mid + 1), by omega, rfl, mid + 1, en, _, rfl, by omega, h2, rfl, fun j q hj e => ?_, h4⟩
        rcases Nat.lt_or_ge j mid with z | z
        · have hle : Le q r := by
            have := List.pairwise_iff_getElem.mp srt
            obtain ⟨q1, q2⟩ := List.getElem?_eq_some_iff.mp e
            obtain ⟨q3, q4⟩ := List.getElem?_eq_some_iff.mp hr2
            have := this j mid q1 q3 z
            rw [q2, q4] at this
            exact this
          exact le_lt hle l
        · have : j = mid := by omega
          subst this
          rw [hr2] at e
          rw [← Option.some.inj e]
          exact l
      · rw [decide_eq_false l]
        refine iteF ⟨.int mid, rfl, mid - st, by omega, rfl, st, mid, _, rfl, b1.1, by omega, rfl, h3, fun j q hj e => ?_⟩
        have l2 := nlt_le.mp l
        rcases Nat.lt_or_ge mid j with z | z
        · have hle : Le r q := by
            have := List.pairwise_iff_getElem.mp srt
            obtain ⟨q1, q2⟩ := List.getElem?_eq_some_iff.mp e
            obtain ⟨q3, q4⟩ := List.getElem?_eq_some_iff.mp hr2
            have := this mid j q3 q1 z
            rw [q2, q4] at this
            exact this
          exact le_trans l2 hle
        · have : j = mid := by omega
          subst this
          rw [hr2] at e
          rw [← Option.some.inj e]
          exact l2
    · rw [decide_eq_false (show ¬ (st : Int) < (en : Int) by omega)]
      refine iteF ?_
      have : st = en := by omega
      subst this
      exact ⟨.int st, rfl, hq st ⟨h2, h3, h4⟩⟩
def spPT : Sp := fun vs H Q _ => ∃ (row v : Addr) (xs : List V) (rs : List (Int × Int)) (c : Int × Int), vs = [.ref row, .ref v] ∧ H row = some (.lst xs) ∧ PairsAt H xs rs ∧ rs.Pairwise Le ∧ H v = some (.tup [.int c.1, .int c.2]) ∧ rs.length ≤ 2500 ∧
  ∀ xs' rs', PairsAt H xs' rs' → rs'.Perm (c :: rs) → rs'.Pairwise Le → Q .non (upd H row (.lst xs'))
theorem ok_PT {f fI : Addr} {fd dI : FuncData} {k : Nat} (F : Fun K "put_in" "put_in" sPT f fd) (GI : FnOk P w K mg base CX0 k fI dI ["row", "value"] spPI) (gI : mg "place_in" = some (.ref fI)) (kI : PySem.W.keepIn K (.ref fI) = true) (bI : Binds K dI ["row", "value"] []) :
    FnOk P w K mg base CX0 (k + 1) f fd ["row", "value"] spPT := by
  refine F.ok scPT (fun vs H Q E h => ?_) (fun cdv A outer s H vs Q E hr h => ?_)
  · obtain ⟨row, v, xs, rs, c, rfl, _⟩ := h
    rfl
  · obtain ⟨row, v, xs, rs, c, rfl, hx, pa, srt, hv, hl, hq⟩ := h
    refine ⟨_, pss_one (ps_expr (pe_bm PySem.F.plainAttrs_list PySem.F.slot_list_insert PySem.F.type_list_insert mt_insert (pv 0) (pa_cons (pe_call GI hr (by rfl) gI kI bI .nil pass0 (pa_cons (pv 0) (pa_cons (pv 1) pa_nil))) (pa_cons (pv 1) pa_nil)))), ?_⟩
    have xl := pa.length
    refine ⟨.ref row, rfl, .inl ⟨rfl, _, SqL.of hx⟩, .ref row, rfl, .ref v, rfl, row, v, xs, rs, c, rfl, hx, pa, srt, hv, hl, fun i pl => ?_⟩
    refine ⟨.ref v, rfl, row, xs, i, .ref v, rfl, rfl, hx, Nat.lt_of_le_of_lt (show xs.length ≤ 2500 by omega) (by decide), by omega, by have := pl.1; omega, ?_⟩
    exact hq _ _ (pairs_ins hv pa i) (perm_ins rs c i) (place_sorted srt pl)
end
end BO

/-! the greedy way of finding a matching: where it fails there is a crowd -/
namespace K55
def cont (o r : Int × Int) : Prop := o.1 ≤ r.1 ∧ r.2 ≤ o.2
section
variable {n m : Nat} {inn out : Nat → Int × Int} {x : Int × Int} {o : Nat → Nat}
/-- reached from x by going from a range to the owner of a range around it, in k steps -/
inductive Rch (n : Nat) (inn out : Nat → Int × Int) (x : Int × Int) (o : Nat → Nat) : Nat → Nat → Prop
  | base {i : Nat} : i < n → cont (out (o i)) x → Rch n inn out x o 1 i
  | step {k i j : Nat} : Rch n inn out x o k i → j < n → cont (out (o j)) (inn i) → Rch n inn out x o (k + 1) j
theorem Rch.pos {k i : Nat} (h : Rch n inn out x o k i) : 1 ≤ k := by cases h <;> omega
theorem Rch.lt {k i : Nat} (h : Rch n inn out x o k i) : i < n := by cases h <;> assumption
/-- what the greedy way has done for n ranges, in ascending order of their low ends -/
structure Greedy (n m : Nat) (inn out : Nat → Int × Int) (o : Nat → Nat) : Prop where
  low : ∀ i j, i ≤ j → j < n → (inn i).1 ≤ (inn j).1
  lt : ∀ i, i < n → o i < m
  has : ∀ i, i < n → cont (out (o i)) (inn i)
  inj : ∀ i j, i < n → j < n → o i = o j → i = j
  best : ∀ i p, i < n → p < m → cont (out p) (inn i) → (∀ j, j < i → o j ≠ p) → (out (o i)).2 ≤ (out p).2
theorem no_way (g : Greedy n m inn out o) (hx : ∀ i, i < n → (inn i).1 ≤ x.1) : ∀ (k i q : Nat), Rch n inn out x o k i → (∀ k', k' < k → ¬ Rch n inn out x o k' i) → q < m → cont (out q) (inn i) → (∀ j, j < n → o j = q → i < j) →
    (∀ k' i', k' < k → Rch n inn out x o k' i' → ¬ cont (out q) (inn i')) → ¬ cont (out q) x → False := by
  intro k
  induction k with
  | zero => intro i q h; have := h.pos; omega
  | succ k ih =>
    intro i q h lev hq hc free nc nx
    have hi := h.lt
    have b := g.best i q hi hq hc (fun j hj e => by have := free j (by omega) e; omega)
    cases h with
    | base hi hx2 =>
      have := hx i hi
      apply nx
      unfold cont at *
      omega
    | @step _ i2 _ h2 hi hc2 =>
      have n1 := nc k i2 (by omega) h2
      have hi2 := h2.lt
      have l1 : (inn i2).1 < (inn i).1 := by unfold cont at *; omega
      have l2 : i2 < i := by
        apply Classical.byContradiction
        intro z
        have := g.low i i2 (by omega) hi2
        omega
      refine ih i2 (o i) h2 (fun k' hk h3 => lev (k' + 1) (by omega) (.step h3 hi hc2)) (g.lt i hi) hc2 (fun j hj e => ?_) (fun k' i3 hk h3 c3 => lev (k' + 1) (by omega) (.step h3 hi c3)) (fun c => lev 1 (by have := h2.pos; omega) (.base hi c))
      have := g.inj j i hj hi e
      omega
/-- x finds no place: all ranges around it, and around those whose places it would need, are taken by them -/
theorem crowd (g : Greedy n m inn out o) (hx : ∀ i, i < n → (inn i).1 ≤ x.1) (fail : ∀ p, p < m → cont (out p) x → ∃ i, i < n ∧ o i = p) :
    ∃ S : Nat → Prop, (∀ i, S i → i < n) ∧ ∀ p, p < m → (cont (out p) x ∨ ∃ i, S i ∧ cont (out p) (inn i)) → ∃ i, S i ∧ o i = p := by
  refine ⟨fun i => ∃ k, Rch n inn out x o k i, fun i ⟨k, h⟩ => h.lt, fun p hp h => ?_⟩
  rcases h with h | ⟨i, ⟨k, h⟩, c⟩
  · obtain ⟨i, hi, e⟩ := fail p hp h
    exact ⟨i, ⟨1, .base hi (by rw [e]; exact h)⟩, e⟩
  · by_cases fr : ∃ j, j < n ∧ o j = p
    · obtain ⟨j, hj, e⟩ := fr
      exact ⟨j, ⟨k + 1, .step h hj (by rw [e]; exact c)⟩, e⟩
    · exfalso
      have all : ∀ k i, Rch n inn out x o k i → ¬ cont (out p) (inn i) := by
        intro k
        induction k using Nat.strongRecOn with
        | ind k ih =>
          intro i h c
          refine no_way g hx k i p h (fun k' hk h3 => ih k' hk i h3 c) hp c (fun j hj e => (fr ⟨j, hj, e⟩).elim) (fun k' i' hk h3 => ih k' hk i' h3) (fun c2 => ?_)
          obtain ⟨j, hj, e⟩ := fail p hp c2
          exact fr ⟨j, hj, e⟩
      exact all k i h c
end
end K55

/-! the greedy way over lists of places -/
namespace K55b
open K55
abbrev Rg := Int × Int
def hasB (o r : Rg) : Bool := decide (o.1 ≤ r.1) && decide (r.2 ≤ o.2)
theorem hasB_iff {o r : Rg} : hasB o r = true ↔ cont o r := by unfold hasB cont; simp
/-- first, second: the ranges at a place; L: places of the first list by low ends; fr: places of the second list by high ends -/
def go (f s : Nat → Rg) : List Nat → List Nat → List (Nat × Option Nat)
  | [], _ => []
  | a :: L, fr => match fr.find? (fun p => hasB (s p) (f a)) with
    | none => (a, none) :: go f s L fr
    | some p => (a, some p) :: go f s L (fr.erase p)
/-- what has been done -/
structure Inv (f s : Nat → Rg) (fr0 : List Nat) (d : List (Nat × Nat)) (fr : List Nat) : Prop where
  free : ∀ q, q ∈ fr ↔ q ∈ fr0 ∧ ∀ e ∈ d, e.2 ≠ q
  nd : fr.Nodup
  srt : fr.Pairwise fun p q => (s p).2 ≤ (s q).2
  mem : ∀ e ∈ d, e.2 ∈ fr0 ∧ cont (s e.2) (f e.1)
  inj : (d.map (·.2)).Nodup
  best : ∀ (i : Nat) (e : Nat × Nat) (q : Nat), d[i]? = some e → q ∈ fr0 → cont (s q) (f e.1) → (∀ (j : Nat) (g : Nat × Nat), j < i → d[j]? = some g → g.2 ≠ q) → (s e.2).2 ≤ (s q).2
theorem find_first {s : Nat → Rg} {t : Nat → Bool} : ∀ {fr : List Nat} {p : Nat}, fr.find? t = some p → fr.Pairwise (fun p q => (s p).2 ≤ (s q).2) → p ∈ fr ∧ t p = true ∧ ∀ q ∈ fr, t q = true → (s p).2 ≤ (s q).2
  | [], p, h, _ => by simp at h
  | a :: fr, p, h, srt => by
    rw [List.find?_cons] at h
    cases e : t a with
    | true =>
      rw [e] at h
      have h : a = p := Option.some.inj h
      subst h
      refine ⟨List.mem_cons_self, e, fun q hq _ => ?_⟩
      rcases List.mem_cons.mp hq with z | z
      · rw [z]; exact Int.le_refl _
      · exact (List.pairwise_cons.mp srt).1 q z
    | false =>
      rw [e] at h
      obtain ⟨h1, h2, h3⟩ := find_first h (List.pairwise_cons.mp srt).2
      refine ⟨List.mem_cons_of_mem _ h1, h2, fun q hq tq => ?_⟩
      rcases List.mem_cons.mp hq with z | z
      · rw [z, e] at tq; cases tq
      · exact h3 q z tq
theorem inv_step {f s : Nat → Rg} {fr0 fr : List Nat} {d : List (Nat × Nat)} {a p : Nat} (v : Inv f s fr0 d fr) (h : fr.find? (fun p => hasB (s p) (f a)) = some p) : Inv f s fr0 (d ++ [(a, p)]) (fr.erase p) := by
  obtain ⟨h1, h2, h3⟩ := find_first h v.srt
  obtain ⟨p1, p2⟩ := (v.free p).mp h1
  constructor
  · intro q
    rw [v.nd.mem_erase_iff, v.free q]
    constructor
    · rintro ⟨n, m, k⟩
      refine ⟨m, fun e he => ?_⟩
      rcases List.mem_append.mp he with z | z
      · exact k e z
      · rw [List.mem_singleton.mp z]; exact fun z => n z.symm
    · rintro ⟨m, k⟩
      exact ⟨fun z => k (a, p) (List.mem_append_right _ List.mem_cons_self) z.symm, m, fun e he => k e (List.mem_append_left _ he)⟩
  · exact v.nd.erase _
  · exact v.srt.sublist List.erase_sublist
  · intro e he
    rcases List.mem_append.mp he with z | z
    · exact v.mem e z
    · rw [List.mem_singleton.mp z]; exact ⟨p1, hasB_iff.mp h2⟩
  · rw [List.map_append, List.nodup_append]
    refine ⟨v.inj, by simp, fun x hx y hy => ?_⟩
    obtain ⟨e, he, rfl⟩ := List.mem_map.mp hx
    rw [show y = p by simpa using hy]
    exact p2 e he
  · intro i e q hi hq c k
    rcases Nat.lt_or_ge i d.length with z | z
    · rw [List.getElem?_append_left z] at hi
      refine v.best i e q hi hq c fun j g hj hg => k j g hj ?_
      rw [List.getElem?_append_left (by omega)]
      exact hg
    · rw [List.getElem?_append_right z] at hi
      have e2 : e = (a, p) := by
        cases n : i - d.length with
        | zero => rw [n] at hi; exact (Option.some.inj hi).symm
        | succ _ => rw [n] at hi; simp at hi
      subst e2
      have iz : i = d.length := by
        cases n : i - d.length with
        | zero => omega
        | succ _ => rw [n] at hi; simp at hi
      refine h3 q ((v.free q).mpr ⟨hq, fun g hg => ?_⟩) (hasB_iff.mpr c)
      obtain ⟨j, hj⟩ := List.getElem?_of_mem hg
      have hl := (List.getElem?_eq_some_iff.mp hj).1
      exact k j g (by omega) (by rw [List.getElem?_append_left hl]; exact hj)
/-- where one finds no place, a set of done ones owns all places around it and around them -/
theorem inv_fail {f s : Nat → Rg} {fr0 fr : List Nat} {d : List (Nat × Nat)} {a m : Nat} (v : Inv f s fr0 d fr) (hm : ∀ q, q ∈ fr0 ↔ q < m) (low : ∀ (i j : Nat) (e g : Nat × Nat), i ≤ j → d[i]? = some e → d[j]? = some g → (f e.1).1 ≤ (f g.1).1) (hx : ∀ e ∈ d, (f e.1).1 ≤ (f a).1)
    (h : fr.find? (fun p => hasB (s p) (f a)) = none) : ∃ S : Nat × Nat → Prop, (∀ e, S e → e ∈ d) ∧ ∀ q, q < m → (cont (s q) (f a) ∨ ∃ e, S e ∧ cont (s q) (f e.1)) → ∃ e, S e ∧ e.2 = q := by
  let D : Nat → Nat × Nat := fun i => (d[i]?).getD (0, 0)
  have dg : ∀ i, i < d.length → d[i]? = some (D i) := fun i hi => by
    show d[i]? = some ((d[i]?).getD (0, 0))
    rw [List.getElem?_eq_getElem hi]
    rfl
  have dm : ∀ i, i < d.length → D i ∈ d := fun i hi => List.mem_of_getElem? (dg i hi)
  have gr : Greedy d.length m (fun i => f (D i).1) s (fun i => (D i).2) := by
    constructor
    · intro i j hij hj
      exact low i j _ _ hij (dg i (by omega)) (dg j hj)
    · intro i hi
      exact (hm _).mp (v.mem _ (dm i hi)).1
    · intro i hi
      exact (v.mem _ (dm i hi)).2
    · intro i j hi hj e
      have e1 : (d.map (·.2))[i]? = some (D i).2 := by rw [List.getElem?_map, dg i hi]; rfl
      have e2 : (d.map (·.2))[j]? = some (D j).2 := by rw [List.getElem?_map, dg j hj]; rfl
      rw [← e] at e2
      exact (List.getElem?_inj (by rw [List.length_map]; exact hi) v.inj).mp (e1.trans e2.symm)
    · intro i p hi hp c k
      refine v.best i (D i) p (dg i hi) ((hm p).mpr hp) c fun j g hj hg => ?_
      have : g = D j := by
        have := dg j (by omega)
        rw [hg] at this
        exact Option.some.inj this
      rw [this]
      exact k j hj
  obtain ⟨S, h1, h2⟩ := crowd gr (x := f a) (fun i hi => hx _ (dm i hi)) fun p hp c => by
    apply Classical.byContradiction
    intro z
    have : p ∈ fr := (v.free p).mpr ⟨(hm p).mpr hp, fun e he q => by
      obtain ⟨j, hj⟩ := List.getElem?_of_mem he
      have hl := (List.getElem?_eq_some_iff.mp hj).1
      have : D j = e := by
        have := dg j hl
        rw [hj] at this
        exact (Option.some.inj this).symm
      exact z ⟨j, hl, by show (D j).2 = p; rw [this]; exact q⟩⟩
    have := List.find?_eq_none.mp h p this
    exact this (hasB_iff.mpr c)
  refine ⟨fun e => ∃ i, S i ∧ D i = e, fun e ⟨i, hi, z⟩ => by rw [← z]; exact dm i (h1 i hi), fun q hq k => ?_⟩
  obtain ⟨i, hi, e⟩ := h2 q hq (by
    rcases k with k | ⟨e, ⟨i, hi, z⟩, k⟩
    · exact .inl k
    · exact .inr ⟨i, hi, by show cont (s q) (f (D i).1); rw [z]; exact k⟩)
  exact ⟨D i, ⟨i, hi, rfl⟩, e⟩
end K55b

/-! the greedy way with what is free kept in order -/
namespace K55d
open K55 K55b RN
/-- a place as it is kept: its high end, itself -/
def pr (s : Nat → Rg) (p : Nat) : Int × Int := ((s p).2, (p : Int))
abbrev Lt (r s : Int × Int) : Prop := r.1 < s.1 ∨ (r.1 = s.1 ∧ r.2 < s.2)
def Place (rs : List (Int × Int)) (c : Int × Int) (i : Nat) : Prop := i ≤ rs.length ∧ (∀ j r, j < i → rs[j]? = some r → Lt r c) ∧ ∀ j r, i ≤ j → rs[j]? = some r → Le c r
def keep (O : List Nat) (p : Nat) : Bool := !O.contains p
theorem keep_iff {O : List Nat} {p : Nat} : keep O p = true ↔ p ∉ O := by unfold keep; simp
theorem keep_cons {O : List Nat} {p q : Nat} : keep (p :: O) q = (!(q == p) && keep O q) := by
  unfold keep
  rw [List.contains_cons, Bool.not_or]
theorem push {s : Nat → Rg} {fr O : List Nat} {p : Nat} {rs : List (Int × Int)} (srt : (fr.map (pr s)).Pairwise Le) (nd : fr.Nodup) (hp : p ∈ fr) (hO : p ∉ O) (h1 : rs.Perm (pr s p :: (fr.filter (keep (p :: O))).map (pr s))) (h2 : rs.Pairwise Le) :
    rs = (fr.filter (keep O)).map (pr s) := by
  refine sorted_same ?_ h2 (srt.sublist (List.Sublist.map _ List.filter_sublist))
  refine h1.trans ?_
  have e : (fr.filter (keep (p :: O))) = (fr.filter (keep O)).erase p := by
    rw [(nd.sublist List.filter_sublist).erase_eq_filter, List.filter_filter]
    refine List.filter_congr fun q _ => ?_
    rw [keep_cons]
    rfl
  rw [e, ← List.map_cons]
  refine List.Perm.map _ ?_
  exact (List.perm_cons_erase (List.mem_filter.mpr ⟨hp, keep_iff.mpr hO⟩)).symm
theorem find_at {t : Nat → Bool} : ∀ {g : List Nat} {i p : Nat}, (∀ j q, j < i → g[j]? = some q → t q = false) → g[i]? = some p → t p = true → g.find? t = some p
  | [], i, p, _, e, _ => by simp at e
  | a :: g, 0, p, _, e, h => by
    have : a = p := by simpa using e
    subst this
    rw [List.find?_cons, h]
  | a :: g, i + 1, p, hj, e, h => by
    rw [List.find?_cons, hj 0 a (Nat.succ_pos _) rfl]
    exact find_at (i := i) (fun j q hlt hq => hj (j + 1) q (by omega) hq) e h
theorem find_no {t : Nat → Bool} {g : List Nat} (h : ∀ j q, j < g.length → g[j]? = some q → t q = false) : g.find? t = none := by
  rw [List.find?_eq_none]
  intro q hq
  obtain ⟨j, hj, rfl⟩ := List.mem_iff_getElem.mp hq
  rw [h j _ hj (List.getElem?_eq_getElem hj)]
  exact Bool.false_ne_true
theorem find_filter {t c : Nat → Bool} : ∀ {g : List Nat}, (∀ q ∈ g, t q = true → c q = true) → g.find? t = (g.filter c).find? t
  | [], _ => rfl
  | a :: g, h => by
    have ih := find_filter (t := t) (c := c) (g := g) fun q hq => h q (List.mem_cons_of_mem _ hq)
    rw [List.find?_cons, List.filter_cons]
    cases ht : t a with
    | true =>
      rw [h a List.mem_cons_self ht]
      simp [ht]
    | false =>
      rw [ih]
      cases c a with
      | true => simp [ht]
      | false => simp
theorem er_map {g : Nat → Int × Int} : ∀ (l : List Nat) (i : Nat), (l.map g).eraseIdx i = (l.eraseIdx i).map g
  | [], _ => rfl
  | _ :: _, 0 => rfl
  | a :: l, i + 1 => by
    show g a :: (l.map g).eraseIdx i = g a :: (l.eraseIdx i).map g
    rw [er_map l i]
theorem er_nodup : ∀ {l : List Nat} {i p : Nat}, l.Nodup → l[i]? = some p → l.eraseIdx i = l.erase p
  | [], _, _, _, e => by simp at e
  | a :: l, 0, p, _, e => by
    have : a = p := by simpa using e
    subst this
    show l = _
    rw [List.erase_cons_head]
  | a :: l, i + 1, p, nd, e => by
    have e : l[i]? = some p := e
    have nd2 := List.nodup_cons.mp nd
    have ne : a ≠ p := fun z => nd2.1 (by rw [z]; exact List.mem_of_getElem? e)
    show a :: l.eraseIdx i = _
    rw [er_nodup nd2.2 e, List.erase_cons_tail (by simpa using ne)]
theorem found {f s : Nat → Rg} {fr O : List Nat} {a i : Nat} (nd : fr.Nodup) (h1 : ∀ q ∈ O, (f a).1 < (s q).1) (h2 : ∀ q ∈ fr, q ∉ O → (s q).1 ≤ (f a).1) (pl : Place ((fr.filter (keep O)).map (pr s)) ((f a).2, 0) i) :
    (i < ((fr.filter (keep O)).map (pr s)).length → ∃ p, p ∈ fr ∧ p ∉ O ∧ ((fr.filter (keep O)).map (pr s))[i]? = some (pr s p) ∧ fr.find? (fun p => hasB (s p) (f a)) = some p ∧ ((fr.filter (keep O)).map (pr s)).eraseIdx i = ((fr.erase p).filter (keep O)).map (pr s)) ∧
    (¬ i < ((fr.filter (keep O)).map (pr s)).length → fr.find? (fun p => hasB (s p) (f a)) = none) := by
  have hf : fr.find? (fun p => hasB (s p) (f a)) = (fr.filter (keep O)).find? (fun p => hasB (s p) (f a)) := find_filter fun q hq ht => keep_iff.mpr fun m => by
    have := h1 q m
    have := (hasB_iff.mp ht).1
    omega
  have low : ∀ j q, (fr.filter (keep O))[j]? = some q → q ∈ fr ∧ q ∉ O ∧ (s q).1 ≤ (f a).1 := fun j q e => by
    obtain ⟨m1, m2⟩ := List.mem_filter.mp (List.mem_of_getElem? e)
    exact ⟨m1, keep_iff.mp m2, h2 q m1 (keep_iff.mp m2)⟩
  have no : ∀ j q, j < i → (fr.filter (keep O))[j]? = some q → hasB (s q) (f a) = false := fun j q hj e => by
    have := pl.2.1 j (pr s q) hj (by rw [List.getElem?_map, e]; rfl)
    have l := low j q e
    simp only [Lt, pr] at this
    unfold hasB
    rw [decide_eq_false (show ¬ (f a).2 ≤ (s q).2 by omega), Bool.and_false]
  rw [hf]
  refine ⟨fun hi => ?_, fun hi => ?_⟩
  · rw [List.length_map] at hi
    have e : (fr.filter (keep O))[i]? = some (fr.filter (keep O))[i] := List.getElem?_eq_getElem hi
    generalize (fr.filter (keep O))[i] = p at e
    have l := low i p e
    have ge := pl.2.2 i (pr s p) (Nat.le_refl _) (by rw [List.getElem?_map, e]; rfl)
    simp only [Le, pr] at ge
    have yes : hasB (s p) (f a) = true := hasB_iff.mpr ⟨l.2.2, by omega⟩
    refine ⟨p, l.1, l.2.1, by rw [List.getElem?_map, e]; rfl, find_at no e yes, ?_⟩
    rw [er_map]
    congr 1
    have ndg := nd.sublist (List.filter_sublist (p := keep O))
    have e2 : (fr.filter (keep O)).eraseIdx i = (fr.filter (keep O)).erase p := er_nodup ndg e
    rw [e2, ndg.erase_eq_filter, nd.erase_eq_filter, List.filter_filter, List.filter_filter]
    exact List.filter_congr fun q _ => Bool.and_comm _ _
  · refine find_no fun j q hj e => no j q ?_ e
    rw [List.length_map] at hi
    omega
end K55d

/-! sorted of a list of triples of ints, up and down -/
namespace GS3
open PySem PySem.Spec PyProof.Rows L2 SrtO
/-- a tuple of these ints -/
def IsTI (h : Heap) (v : Value) (ns : List Int) : Prop := ∃ (a : Addr) (o : Obj) (items : Array Value) (n : Nat), v = .ref a ∧ h.get? a = some o ∧ o.cls = .type "tuple" ∧ o.data = .seq items n ∧ IntsAre items.toList ns
theorem IsTI.keeps {h h' : Heap} {v : Value} {ns : List Int} (x : IsTI h v ns) (k : ∀ b o, h.get? b = some o → o.cls = .type "tuple" → h'.get? b = some o) : IsTI h' v ns := by
  obtain ⟨a, o, items, n, e, ho, hc, hd, hi⟩ := x
  exact ⟨a, o, items, n, e, k a o ho hc, hc, hd, hi⟩
section
variable {prog : Program} {w : World} {A : Around} {s : Shared}
theorem kat_ints {Q : Bool → Shared → Prop} : ∀ (ns ms : List Int) (vs ws : List Value) (i : Nat), IntsAre vs ns → IntsAre ws ms → ns.length = ms.length → Q (HT.lexLt ns ms) s → PySem.W.KatLex prog w A true false Q (vs.zip ws) i s
  | [], [], _, _, i, .nil, .nil, _, h => PySem.W.kat_nil h
  | x :: ns, y :: ms, _, _, i, .cons _ t h1, .cons _ u h2, hl, h => by
    have hl2 : ns.length = ms.length := by simpa using hl
    rw [HT.lexLt_cons] at h
    rw [List.zip_cons_cons]
    refine PySem.W.kat_cons (SeqAt.EqAt.int_int x t y u prog w _ _ ?_)
    refine PySem.W.kat_go (fun e1 => ?_) (fun e1 => ?_)
    · have ex : x = y := by simpa using e1
      rw [if_pos ex] at h
      exact PySem.W.kat_yes (kat_ints ns ms _ _ (i + 1) h1 h2 hl2 h)
    · have ex : ¬ x = y := by simpa using e1
      rw [if_neg ex] at h
      cases i with
      | zero => exact PySem.W.kat_no (oneLt_int h)
      | succ i => exact PySem.W.kat_no (PySem.W.kat_one _ _ (PyProof.Rows.lt_int h))
  | [], _ :: _, _, _, _, _, _, hl, _ => by simp at hl
  | _ :: _, [], _, _, _, _, _, hl, _ => by simp at hl
theorem ints_cmp {vs : List Value} {k : Value → List Int} {d : Nat} (hp : ∀ v ∈ vs, IsTI s.heap v (k v) ∧ (k v).length = d) : Cmp prog w A s (tuples' true) (fun p => p.1 ∈ vs) (lt2 fun v u => HT.lexLt (k v) (k u)) := by
  intro p q hm hm'
  obtain ⟨⟨a, o, xs, n, e, ho, hc, hd, hi⟩, l1⟩ := hp _ hm
  obtain ⟨⟨b, ob, ys, m, e2, ho2, hc2, hd2, hi2⟩, l2⟩ := hp _ hm'
  show wpAny (model prog w) A (keyLt' (tuples' true) p.1 q.1) (fun r s' => s' = s ∧ r = HT.lexLt (k p.1) (k q.1)) (fun _ _ => False) s
  generalize k p.1 = ns at *
  generalize k q.1 = ms at *
  rw [e, e2]
  refine PySem.W.kat_lt ho hd ho2 hd2 ?_
  have z1 := hi.length
  have z2 := hi2.length
  rw [Array.length_toList] at z1 z2
  rw [show decide (xs.size < ys.size) = false from decide_eq_false (by omega)]
  exact kat_ints ns ms _ _ 0 hi hi2 (by omega) ⟨rfl, rfl⟩
theorem firsts {h : Heap} : ∀ {vs : List Value} {k : Value → List Int}, (∀ v ∈ vs, IsTI h v (k v) ∧ (k v).length = 3) → ∃ fs : List Value, PySem.W.KatTups h vs fs ∧ fs.length = vs.length ∧ ∀ f ∈ fs, ∃ x t, f = Value.int x t
  | [], _, _ => ⟨[], PySem.W.KatTups.nil, rfl, fun _ hm => by simp at hm⟩
  | v :: vs, k, hp => by
    obtain ⟨fs, h1, h2, h3⟩ := firsts (vs := vs) (k := k) fun v' hm => hp v' (List.mem_cons_of_mem _ hm)
    obtain ⟨⟨a, o, xs, n, e, ho, hc, hd, hi⟩, l⟩ := hp v (List.mem_cons_self ..)
    generalize k v = ns at hi l
    subst e
    obtain ⟨y, ys, e⟩ : ∃ y ys, xs.toList = y :: ys := by
      cases q : xs.toList with
      | nil =>
        rw [q] at hi
        cases hi
        simp at l
      | cons y ys => exact ⟨y, ys, rfl⟩
    rw [e] at hi
    cases hi with
    | cons x t hr =>
      refine ⟨.int x t :: fs, PySem.W.KatTups.cons ho hc hd (by rw [← Array.getElem?_toList, e]; rfl) h1, by rw [List.length_cons, List.length_cons, h2], fun f hm => ?_⟩
      rcases List.mem_cons.mp hm with rfl | hm
      · exact ⟨x, t, rfl⟩
      · exact h3 f hm
theorem ints_sortable {a : Addr} {vs : List Value} {k : Value → List Int} (h0 : 0 < vs.length) (hp : ∀ v ∈ vs, IsTI s.heap v (k v) ∧ (k v).length = 3) (ha : ∀ o, s.heap.get? a = some o → o.cls ≠ .type "tuple") : SortableO prog w A s a vs fun v u => HT.lexLt (k v) (k u) := by
  intro h' keep
  have hp' : ∀ v ∈ vs, IsTI h' v (k v) ∧ (k v).length = 3 := fun v hm => ⟨(hp v hm).1.keeps fun b o e c => keep b o (fun z => by subst z; exact ha o e c) e, (hp v hm).2⟩
  obtain ⟨fs, h1, h2, h3⟩ := firsts hp'
  refine ⟨tuples' true, fun Q E hq => ?_, ints_cmp (s := { s with heap := h' }) hp'⟩
  refine PySem.W.kat_kind (T := .type "int") h1 (by omega) (fun f hm => ?_) (by rfl) ?_
  · obtain ⟨x, t, rfl⟩ := h3 f hm
    exact PySem.W.Looks.now
  · have e : (Value.type "int" != Value.type "tuple") = true := by first | decide +kernel | rfl | decide
    rw [e]
    exact hq
end
section
variable {X : Cx}
def rSortT (K : PySem.W.Frag) (b : Bool) (a : Addr) (H : Hp) (Q : VK) : Prop := ∃ (xs : List V) (k : V → List Int), SqL K H a xs ∧ (∀ x ∈ xs, ∃ t, x = V.ref t ∧ H t = some (.tup ((k x).map V.int)) ∧ (k x).length = 3) ∧
  ∀ ys p, (ys.Pairwise fun x y => HT.lexLt (k y) (k x) = false) → ys.Perm xs → H p = none → Q (.ref p) (upd H p (.lst (if b = true then ys.reverse else ys)))
theorem ti_of {pins : List (Addr × Obj)} {s : Shared} {σ : L2.St} {H : Hp} (I : Inv X pins σ H s) {t : Addr} {ns : List Int} (ht : H t = some (.tup (ns.map V.int))) : IsTI s.heap (.ref t) ns := by
  obtain ⟨_, its, r, o, ho, hc, n, hd⟩ := (show ObjOk X.prog X.w H s.heap t (.tup (ns.map V.int)) from I.hok _ _ ht)
  exact ⟨t, o, its.toArray, n, rfl, ho, hc, hd, intsAre_of r⟩
theorem not_tup {h : Heap} {a : Addr} {vs : List Value} {n : Nat} (ha : h.get? a = some (seqObj "list" vs.toArray n)) : ∀ o, h.get? a = some o → o.cls ≠ .type "tuple" := fun o e => by
  rw [ha] at e
  cases e
  intro c
  exact absurd (Value.type.inj c) (by decide)
theorem cr_sortedT3 : CallR X (.builtin "sorted") (fun vs H Q => ∃ a, vs = [.ref a] ∧ rSortT X.K false a H Q) := by
  intro pins s σ H vs us Q I r h
  obtain ⟨a, rfl, xs, k, hs, hx, q⟩ := h
  obtain ⟨its, rv, hl, hz⟩ := I.list hs
  obtain rfl := Vals.ref1 r
  obtain ⟨e1, e2⟩ := refs_back rv fun x m => by
    obtain ⟨t, e, _⟩ := hx x m
    exact ⟨t, e⟩
  have hp : ∀ v ∈ its, IsTI s.heap v (k (backV v)) ∧ (k (backV v)).length = 3 := fun v hv => by
    obtain ⟨t, rfl⟩ := e2 v hv
    have hm : V.ref t ∈ xs := by rw [e1]; exact List.mem_map.mpr ⟨_, hv, rfl⟩
    obtain ⟨t', e, ht, h3⟩ := hx _ hm
    cases e
    exact ⟨ti_of I ht, h3⟩
  have hzl : its.length ≤ sizeLine := by rw [← rv.length]; exact hz
  refine sorted_ord (NtL.swo_lexL fun u => k (backV u)) hl.isList hzl (fun h2 h₁ a' g kk => ints_sortable (s := { s with heap := h₁ }) (by omega) (fun v hv => ⟨(hp v hv).1.keeps fun b o e _ => (kk b o e).2, (hp v hv).2⟩) (not_tup g)) fun out h1 h2 => ?_
  have h3 : ∀ u ∈ out, ∃ a, u = Value.ref a := fun u hu => e2 u (h2.perm.mem_iff.mp hu)
  obtain ⟨n, hn⟩ := sortedAll_at s.heap its out.toArray
  have pm : (out.map backV).Perm xs := by rw [e1]; exact h2.perm.map _
  refine ⟨.ref _, upd H (s.heap.objs.size + 1) (.lst (out.map backV)), I.laid (t' := s.toks) (fun _ _ => sortedAll_old) (Nat.le_succ _) ⟨?_, out, n, vals_back h3, hn⟩, rfl, q _ _ (List.pairwise_map.mpr (h1.imp fun {x y} z => z)) pm (I.hok.fresh (Nat.le_succ _))⟩
  rw [pm.length_eq]
  exact hz
theorem cr_sortedT3R : CallRK X (.builtin "sorted") [Str.ofString "reverse"] (fun vs zs H Q => ∃ a, vs = [.ref a] ∧ zs = [.bl true] ∧ rSortT X.K true a H Q) := by
  intro pins s σ H vs zs us ws Q I r rz h
  obtain ⟨a, rfl, rfl, xs, k, hs, hx, q⟩ := h
  obtain ⟨its, rv, hl, hz⟩ := I.list hs
  obtain rfl := Vals.ref1 r
  obtain ⟨w1, rfl, ew⟩ := vals1 rz
  obtain rfl : w1 = Value.bool true := ew
  obtain ⟨e1, e2⟩ := refs_back rv fun x m => by
    obtain ⟨t, e, _⟩ := hx x m
    exact ⟨t, e⟩
  have hp : ∀ v ∈ its, IsTI s.heap v (k (backV v)) ∧ (k (backV v)).length = 3 := fun v hv => by
    obtain ⟨t, rfl⟩ := e2 v hv
    have hm : V.ref t ∈ xs := by rw [e1]; exact List.mem_map.mpr ⟨_, hv, rfl⟩
    obtain ⟨t', e, ht, h3⟩ := hx _ hm
    cases e
    exact ⟨ti_of I ht, h3⟩
  have hzl : its.length ≤ sizeLine := by rw [← rv.length]; exact hz
  refine SrtR.sorted_ordK (b := true) (fun _ => rfl) (PyProof.Rows.args_sorted_rev _ _) (fun _ => PyProof.Rows.args_list_sort_rev _ _) (NtL.swo_lexL fun u => k (backV u)) hl.isList hzl (fun h2 h₁ a' g kk => ints_sortable (s := { s with heap := h₁ }) (by omega) (fun v hv => ⟨(hp v hv).1.keeps fun b o e _ => (kk b o e).2, (hp v hv).2⟩) (not_tup g)) fun out h1 h2 => ?_
  have pm0 : out.Perm its := h2.perm.trans (List.reverse_perm _)
  have h3 : ∀ u ∈ out, ∃ a, u = Value.ref a := fun u hu => e2 u (pm0.mem_iff.mp hu)
  have h3r : ∀ u ∈ out.reverse, ∃ a, u = Value.ref a := fun u hu => h3 u (List.mem_reverse.mp hu)
  obtain ⟨n, hn⟩ := sortedAll_at s.heap its (if true = true then out.toArray.reverse else out.toArray)
  have pm : (out.map backV).Perm xs := by rw [e1]; exact pm0.map _
  have e0 : (if true = true then out.toArray.reverse else out.toArray) = out.reverse.toArray := by rw [if_pos rfl]; simp
  rw [e0] at hn ⊢
  refine ⟨.ref _, upd H (s.heap.objs.size + 1) (.lst (out.map backV).reverse), I.laid (t' := s.toks) (fun _ _ => sortedAll_old) (Nat.le_succ _) ⟨?_, out.reverse, n, by rw [← List.map_reverse]; exact vals_back h3r, hn⟩, rfl, q _ _ (List.pairwise_map.mpr (h1.imp fun {x y} z => z)) pm (I.hok.fresh (Nat.le_succ _))⟩
  rw [List.length_reverse, pm.length_eq]
  exact hz
end
end GS3

/-! enumerate of a tuple -/
namespace GE
open PySem PySem.Spec PyProof.Rows L2
/-- the tuple at a, each item in a new pair -/
def IteT (K : PySem.W.Frag) (a : Addr) : It :=
  ⟨fun i H => ∃ (xs : List V) (x : V), SqT K H a xs ∧ xs[i]? = some x, fun i H v H' => ∃ T x, v = .ref T ∧ H T = none ∧ H' = upd H T (.tup [.int (i : Nat), x]) ∧ ∀ xs, SqT K H a xs → xs[i]? = some x, fun i H => ∃ xs : List V, SqT K H a xs ∧ xs.length ≤ i⟩
theorem turn_enumT {P : Program} {w : World} {K : PySem.W.Frag} {elts : List Expr} {kk : Nat} {tpos : Pos} (a e it : Addr) :
    Turn P w K (.Tuple elts kk tpos) (IteT K a) [e, it] e (fun i h => (∃ old, IsEnum h e it ((i : Nat) : Int) old) ∧ h.IsTupleIter it a i ∧ e ≠ it) where
  mem := by simp
  obj := fun i h st b hb => by
    obtain ⟨⟨old, he⟩, ⟨o, ho, hc, hd⟩, _⟩ := st
    have e' : b = e ∨ b = it := by simpa using hb
    rcases e' with z | z
    · rw [z]; exact ⟨_, he, fun v q => nomatch q⟩
    · rw [z]; exact ⟨o, ho, fun v q => by rw [hd] at q; cases q⟩
  keep := fun i h h' st k => let ⟨⟨old, he⟩, hi, hne⟩ := st; ⟨⟨old, k e (by simp) _ he⟩, hi.at fun o q => k it (by simp) o q, hne⟩
  item := by
    intro X hP hw hK hc i pins s σ H E I hf st hg
    subst hP hw hK
    obtain ⟨⟨old, he⟩, hit, hne⟩ := st
    obtain ⟨xs, x, hq, hx⟩ := hg
    obtain ⟨its, rv, p, hz⟩ := I.tuple hq
    obtain ⟨u, hu, ru⟩ := rv.get hx
    have p2 : s.heap.IsTuple a its.toArray := p
    have hel : e < s.heap.objs.size := Heap.lt_size he
    have hil : it < s.heap.objs.size := by obtain ⟨_, q, _⟩ := hit; exact Heap.lt_size q
    have nai : a ≠ it := fun z => by
      obtain ⟨o1, g1, c1, _⟩ := hit
      obtain ⟨o2, g2, c2, _⟩ := p2
      rw [z, g1] at g2
      cases g2
      rw [c1] at c2
      exact absurd (Value.type.inj c2) (by decide)
    have nae : e ≠ a := fun z => by
      obtain ⟨o2, g2, c2, _⟩ := p2
      have g1 := he
      rw [z] at g1
      rw [g1] at g2
      cases g2
      exact absurd (Value.type.inj c2) (by decide)
    have hlt : i < its.toArray.size := by
      have := (List.getElem?_eq_some_iff.mp hu).1
      simpa using this
    refine wpAny_pyNext_enum_itemD (Draws.tuple (prog := X.prog) (w := X.w) (A := X.A.in1) (I.ok.hd hc) it a nai its.toArray) he ⟨hit, p2⟩ hlt hne (by simp [hne, nae]) fun x' h' tk px ho st' hT hsz hk => ?_
    have ex : x' = u := by
      have px2 : its[i]? = some x' := by simpa using px
      rw [hu] at px2
      exact (Option.some.inj px2).symm
    subst ex
    refine ⟨_, rfl, wpAny_letOwnedTupleGo_enum (s := { s with heap := h', toks := tk + 1 }) ho fun h'' he' sb => ?_⟩
    have hT2 : h''.get? s.heap.objs.size = some { cls := .type "tuple", data := .seq #[.int i tk, x'] } := (sb.2 _ (Nat.ne_of_gt hel)).trans hT
    have new : ObjOk X.prog X.w (upd H s.heap.objs.size (.tup [.int (i : Nat), x])) h'' s.heap.objs.size (.tup [.int (i : Nat), x]) :=
      ⟨by show 2 ≤ sizeLine; decide, [.int i tk, x'], .cons ⟨_, rfl⟩ (.cons ru .nil), ⟨_, hT2, rfl, _, rfl⟩⟩
    have I1 : Inv X pins σ (upd H s.heap.objs.size (.tup [.int (i : Nat), x])) { s with heap := h'', toks := tk + 1 } :=
      I.turnedNew (ch := [e, it]) (fun b ob hb q => (sb.2 b (fun z => hb (by simp [z]))).trans (hk b ob (fun z => hb (by simp [z])) (fun z => hb (by simp [z])) q)) hf (Nat.le_refl _) new
    refine ⟨.ref s.heap.objs.size, _, I1, rfl, ⟨_, x, rfl, I.hok.fresh (Nat.le_refl _), rfl, fun ys hy => by rw [I.tuple_inj hy hq]; exact hx⟩, ⟨⟨x', ?_⟩, st'.1.at fun o q => (sb.2 it (Ne.symm hne)).trans q, hne⟩, fun b hb => ?_⟩
    · have e1 : ((i + 1 : Nat) : Int) = (i : Int) + 1 := by omega
      rw [e1]; exact he'
    · have hb' : b < s.heap.objs.size := by
        have e' : b = e ∨ b = it := by simpa using hb
        rcases e' with z | z
        · rw [z]; exact hel
        · rw [z]; exact hil
      rw [upd_ne (Nat.ne_of_lt hb')]
      exact (hf b hb).1
  done := by
    intro X hP hw hK hc i pins s σ H E I hf st hg
    subst hP hw hK
    obtain ⟨⟨old, he⟩, hit, hne⟩ := st
    obtain ⟨xs, hq, hx⟩ := hg
    obtain ⟨its, rv, p, hz⟩ := I.tuple hq
    have p2 : s.heap.IsTuple a its.toArray := p
    obtain ⟨f0, f1, f2, f3, f4, f5⟩ := hf it (by simp)
    have hl := rv.length
    have D : Draws X.prog X.w X.A.in1 it [it, a] i (fun _ _ => True) (fun j h => j = i ∧ h.IsTupleIter it a i ∧ h.IsTuple a its.toArray) :=
      { live := fun _ _ st => let ⟨o, ho, _⟩ := st.2.1; ⟨o, ho⟩
        frame := fun _ _ _ st hk => ⟨st.1, st.2.1.at fun o e => hk it (by simp) o e, st.2.2.at fun o e => hk a (by simp) o e⟩
        item := fun j s Q E hj st _ => absurd st.1 (Nat.ne_of_lt hj)
        done := fun s Q E st hE => wpAny_nextOf_tuple_end (I.ok.hd hc) st.2.1 st.2.2 (by simp; omega) hE }
    exact wpAny_pyNext_enum_endD D he ⟨rfl, hit, p2⟩ fun h' eb => ⟨rfl, I.turned (t' := s.toks) (fun b o hb q => eb b o hb q) f0 f1 f3 f4 f5⟩
  self := fun A i s Q E st h => let ⟨⟨_, he⟩, _⟩ := st; wpAny_pyIter_enum he h
theorem meets_enum1 {v : Value} {o : Obj} {H : Heap → Prop} (B : Begins v o H) :
    Meets (Builtin.«enumerate.__new__» ⟨[.type "enumerate", v], []⟩) (fun _ R s => H s.heap ∧
      R (.ok (.ret (.ref (s.heap.push o).objs.size))) { s with heap := (s.heap.push o).push { cls := .type "enumerate", data := .fields #[.none, .bool false, .ref s.heap.objs.size, rawInt 0, .none, .none] } }) :=
  .of_wp fun prog w A R s h => by
    obtain ⟨hp, g, d, tk, os⟩ := s
    obtain ⟨h1, h⟩ := h
    have hsub := sub_enumerate
    have q1 : ∀ {A' : Around} {E : Value → Shared → Prop} {Q : Value → Shared → Prop}, Q (.ref hp.objs.size) ⟨hp.push o, g, d, tk, os⟩ → wpAny (model prog w) A' (pyIter v) Q E ⟨hp, g, d, tk, os⟩ :=
      fun q => B.iter prog w _ _ ⟨hp, g, d, tk, os⟩ _ h1 q
    wp_walk using q1
    refine wpAny_stack_any fun st => wpAny_pure ?_
    split
    · rename_i c _ _ _ _ _
      cases (c == Value.type "enumerate")
      · wp_walk using q1
        exact ⟨_, rfl, h⟩
      · wp_walk using q1
        exact ⟨_, rfl, h⟩
    · wp_walk using q1
      exact ⟨_, rfl, h⟩
theorem call_enum1 {prog : Program} {w : World} {A : Around} {E : Value → Shared → Prop} {s : Shared} {t : Addr} {o : Obj} {H : Heap → Prop} {Q : Value → Shared → Prop} (B : Begins (.ref t) o H) (h1 : H s.heap)
    (h : ∀ h', IsEnum h' (s.heap.objs.size + 1) s.heap.objs.size 0 .none → h'.get? s.heap.objs.size = some o → h'.objs.size = s.heap.objs.size + 2 →
      (∀ b o, s.heap.get? b = some o → h'.get? b = some o) → Q (.ref (s.heap.objs.size + 1)) { s with heap := h' }) :
    wpAny (model prog w) A (call (.type "enumerate") [.ref t]) Q E s := by
  refine callType_new F.called_enumerate (by decide) (F.typeCall_enumerate_1 _) (F.newCall_enumerate_1 _) (fun obj => F.args_object_init_2 obj _) F.entry_enumerate_new (meets_enum1 B) ⟨h1, ?_⟩
  have hz : (s.heap.push o).objs.size = s.heap.objs.size + 1 := Heap.size_push ..
  show _ ∧ _
  rw [hz]
  have he : IsEnum ((s.heap.push o).push { cls := .type "enumerate", data := .fields #[.none, .bool false, .ref s.heap.objs.size, rawInt 0, .none, .none] }) (s.heap.objs.size + 1) s.heap.objs.size 0 .none := by
    have := Heap.get?_push_size (s.heap.push o) (o := { cls := .type "enumerate", data := .fields #[.none, .bool false, .ref s.heap.objs.size, rawInt 0, .none, .none] }) rfl
    rw [hz] at this
    exact this
  exact ⟨⟨_, he, rfl⟩, h _ he (Heap.get?_push_of_some _ (Heap.get?_push_size _ B.free)) (by rw [Heap.size_push, hz]) fun b o x => Heap.get?_push_of_some _ (Heap.get?_push_of_some _ x)⟩
/-- enumerate of a list or a tuple -/
def iEnumB (K : PySem.W.Frag) (ta : TA) : TI := fun σ H R => ta σ H fun vs H1 => ∃ a, vs = [.ref a] ∧ ((∃ xs, SqL K H1 a xs ∧ R (Ite K a) H1) ∨ ∃ xs, SqT K H1 a xs ∧ R (IteT K a) H1)
theorem pi_enumB {X : Cx} {e : Expr} {ta : TA} {p pos tpos : Pos} {elts : List Expr} {kk : Nat} (hg : Gl X "enumerate") (hm : X.mg "enumerate" = none) (ha : PA X [e] ta) (hs : starEach [e] X.env = [(false, eval e X.env)] := by rfl) :
    PI X (.Tuple elts kk tpos) (.Call (.Name "enumerate" p) [e] [] pos) (iEnumB X.K ta) := by
  refine ⟨fun pins s σ H R I h => ?_⟩
  refine Call_ (ld_blt I hg hm boot_enumerate (PyProof.Rows.callWith_type1 (thn (ha.run pos pins s σ H _ I h) fun us s1 ⟨vs, H1, I1, r1, q1⟩ => ?_) hs rfl))
  obtain ⟨a, ex, q⟩ := q1
  subst ex
  have top : ∀ b, b ∈ [s1.heap.objs.size + 1, s1.heap.objs.size] → s1.heap.objs.size ≤ b := fun b hb => by
    have e' : b = s1.heap.objs.size + 1 ∨ b = s1.heap.objs.size := by simpa using hb
    rcases e' with z | z
    · rw [z]; exact Nat.le_add_right _ _
    · rw [z]; exact Nat.le_refl _
  cases r1 with
  | cons r rr =>
    cases rr
    cases r
    rcases q with ⟨xs, hq, q⟩ | ⟨xs, hq, q⟩
    · obtain ⟨its, rv, p', hz⟩ := I1.list hq
      refine call_enumerate_list p'.isList fun h' he hit hsz hk => wpAny_pyIter_enum he ?_
      have I2 : Inv X pins σ H1 { s1 with heap := h' } := I1.kept (t' := s1.toks) hk
      exact ⟨s1.heap.objs.size + 1, [s1.heap.objs.size + 1, s1.heap.objs.size], _, _, H1, rfl, I2, turn_enum a (s1.heap.objs.size + 1) s1.heap.objs.size, ⟨⟨.none, he⟩, hit, Nat.succ_ne_self _⟩, fun b hb => I1.fpOk (top b hb) (I1.hok.fresh (top b hb)), q⟩
    · obtain ⟨its, rv, p', hz⟩ := I1.tuple hq
      have p2 : s1.heap.IsTuple a its.toArray := p'
      refine call_enum1 (begins_tuple a its.toArray) p2 fun h' he hit hsz hk => wpAny_pyIter_enum he ?_
      have I2 : Inv X pins σ H1 { s1 with heap := h' } := I1.kept (t' := s1.toks) hk
      exact ⟨s1.heap.objs.size + 1, [s1.heap.objs.size + 1, s1.heap.objs.size], _, _, H1, rfl, I2, turn_enumT a (s1.heap.objs.size + 1) s1.heap.objs.size, ⟨⟨.none, he⟩, ⟨_, hit, rfl, rfl⟩, Nat.succ_ne_self _⟩, fun b hb => I1.fpOk (top b hb) (I1.hok.fresh (top b hb)), q⟩
theorem walk_enumT {K : PySem.W.Frag} {a : Addr} {xs : List V} : Walk (IteT K a) xs.length (fun H => SqT K H a xs) (YPair (fun i => some (.int (i : Nat))) (fun i => xs[i]?)) :=
  ⟨fun i H hi q => ⟨xs, xs[i], q, by simp [hi]⟩, fun H q => ⟨xs, q, Nat.le_refl _⟩, fun i H v H' _ q y => by
    obtain ⟨T, x, h1, h2, h3, h4⟩ := y
    exact ⟨T, _, x, h1, h2, h3, rfl, h4 xs q⟩⟩
/-- enumerate of a list or a tuple: a walk over it, by what it gives -/
def iEnumS (K : PySem.W.Frag) (ta : TA) : TI := fun σ H R => ta σ H fun vs H1 => ∃ a xs, vs = [.ref a] ∧ PH.Sq K H1 a xs ∧
  ∀ (J : It) (G : Hp → Prop), Walk J xs.length G (YPair (fun i => some (.int (i : Nat))) (fun i => xs[i]?)) → (∀ H', L2.Same H1 H' → G H') → R J H1
theorem pi_enumS {X : Cx} {e : Expr} {ta : TA} {p pos tpos : Pos} {elts : List Expr} {kk : Nat} (hg : Gl X "enumerate") (hm : X.mg "enumerate" = none) (ha : PA X [e] ta) (hs : starEach [e] X.env = [(false, eval e X.env)] := by rfl) :
    PI X (.Tuple elts kk tpos) (.Call (.Name "enumerate" p) [e] [] pos) (iEnumS X.K ta) := by
  refine ⟨fun pins s σ H R I h => ?_⟩
  refine Call_ (ld_blt I hg hm boot_enumerate (PyProof.Rows.callWith_type1 (thn (ha.run pos pins s σ H _ I h) fun us s1 ⟨vs, H1, I1, r1, q1⟩ => ?_) hs rfl))
  obtain ⟨a, xs, ex, hq, q⟩ := q1
  subst ex
  have top : ∀ b, b ∈ [s1.heap.objs.size + 1, s1.heap.objs.size] → s1.heap.objs.size ≤ b := fun b hb => by
    have e' : b = s1.heap.objs.size + 1 ∨ b = s1.heap.objs.size := by simpa using hb
    rcases e' with z | z
    · rw [z]; exact Nat.le_add_right _ _
    · rw [z]; exact Nat.le_refl _
  cases r1 with
  | cons r rr =>
    cases rr
    cases r
    rcases hq with hq | hq
    · obtain ⟨its, rv, p', hz⟩ := I1.list hq
      refine call_enumerate_list p'.isList fun h' he hit hsz hk => wpAny_pyIter_enum he ?_
      have I2 : Inv X pins σ H1 { s1 with heap := h' } := I1.kept (t' := s1.toks) hk
      exact ⟨s1.heap.objs.size + 1, [s1.heap.objs.size + 1, s1.heap.objs.size], _, _, H1, rfl, I2, turn_enum a (s1.heap.objs.size + 1) s1.heap.objs.size, ⟨⟨.none, he⟩, hit, Nat.succ_ne_self _⟩, fun b hb => I1.fpOk (top b hb) (I1.hok.fresh (top b hb)), q _ _ walk_enum fun H' s => s.seq hq⟩
    · obtain ⟨its, rv, p', hz⟩ := I1.tuple hq
      have p2 : s1.heap.IsTuple a its.toArray := p'
      refine call_enum1 (begins_tuple a its.toArray) p2 fun h' he hit hsz hk => wpAny_pyIter_enum he ?_
      have I2 : Inv X pins σ H1 { s1 with heap := h' } := I1.kept (t' := s1.toks) hk
      exact ⟨s1.heap.objs.size + 1, [s1.heap.objs.size + 1, s1.heap.objs.size], _, _, H1, rfl, I2, turn_enumT a (s1.heap.objs.size + 1) s1.heap.objs.size, ⟨⟨.none, he⟩, ⟨_, hit, rfl, rfl⟩, Nat.succ_ne_self _⟩, fun b hb => I1.fpOk (top b hb) (I1.hok.fresh (top b hb)), q _ _ walk_enumT fun H' s => KA.SqT_same s hq⟩
end GE

/-! == and != of two instances by an own __eq__, both answers -/
namespace GN
open PySem PySem.Spec PyProof.Rows L2
section
variable {M : Model} {prog : Program} {w : World} {A : Around} {E : Value → Shared → Prop} {s : Shared} {K : PySem.W.Frag} {x C L f : Addr} {ox : Obj} {od : Option Obj}
theorem entry_ne {y : Value} (X : K.In s.heap) (I : PySem.W.InstAt s.heap x ox C od) (hs : PySem.W.findIn K (.ref C) "__eq__" = some (some (.ref f))) (hf : PySem.W.isFn K (.ref f) = true) (hu : A.units < cLine) {Q : Fin → Shared → Prop}
    (hcall : wpAny (model prog w) A (call (.ref f) [.ref x, y]) (fun v s' => ∃ b, v = .bool b ∧ Q (.done (.ret (.bool (!b)))) s') E s) :
    wpAny (model prog w) A (Builtin.«object.__ne__» ⟨[.ref x, y], []⟩) Q E s := by
  unfold Builtin.«object.__ne__»
  repeat (first
    | with_reducible refine wpAny_cRoomFor hu ?_
    | (refine wpAny_bind (m := callSpecialIfBound? (.ref x) (Str.ofString "__eq__") [y])
        (PySem.W.ifBound_K X I hs hf (wpAny_mono hcall (fun r s' hr => by
          obtain ⟨b, rfl, hq⟩ := hr
          repeat (first | exact hq | exact wpAny_pure hq | exact wpAny_truthy_bool hq | (refine wpAny_bind (m := truthy (.bool _)) (wpAny_truthy_bool ?_)) | wp_step)) fun _ _ e => e)))
    | wp_step)
theorem ifBound_ne {args : List Value} {Q : Option Value → Shared → Prop} (X : K.In s.heap) (I : PySem.W.InstAt s.heap x ox C od) (hs : PySem.W.findIn K (.ref C) "__ne__" = some (some (.builtin "object.__ne__")))
    (h : wpAny M A (call (.builtin "object.__ne__") (.ref x :: args)) (fun v => Q (some v)) E s) : wpAny M A (callSpecialIfBound? (.ref x) "__ne__" args) Q E s := by
  simp only [callSpecialIfBound?, bindSpecialIfBound?]
  refine wpAny_holding (wpAny_bind (wpAny_bind (wpAny_bind (I.type.here ((PySem.W.looks_findIn X hs).here ?_)))))
  refine wpAny_bind (wpAny_askSetting (wpAny_ite ?_))
  have fin : wpAny M A (call (.builtin "object.__ne__") ([.ref x] ++ args) >>= fun v => pure (some v)) Q E s := wpAny_bind (wpAny_mono h (fun v s' h' => wpAny_pure h') fun _ _ h' => h')
  split
  · exact wpAny_bind (wpAny_of_eq (F.cmp_object.ne.bind _) (wpAny_pure (by exact fin)))
  · exact wpAny_tryCatch (wpAny_bind (wpAny_of_eq (F.cmp_object.ne.bind _) (wpAny_pure (by exact fin))))
theorem rc_ne {b tb : Value} {Q : Value → Shared → Prop} (hu : A.units + 1 < cLine) (X : K.In s.heap) (I : PySem.W.InstAt s.heap x ox C od) (hb : PySem.W.Looks (model prog w) s.heap (typeOf b) tb) (hn : PySem.W.notFirst K C tb = true)
    (hm : PySem.W.mroIn K C (.type "object") = some true) (hs : PySem.W.findIn K (.ref C) "__eq__" = some (some (.ref f))) (hf : PySem.W.isFn K (.ref f) = true) (hne : PySem.W.findIn K (.ref C) "__ne__" = some (some (.builtin "object.__ne__")))
    (h : wpAny (model prog w) A.in1 (call (.ref f) [.ref x, b]) (fun v s' => ∃ r, v = .bool r ∧ Q (.bool (!r)) s') E s) : wpAny (model prog w) A (richCompare .NotEq (.ref x) b) Q E s := by
  have one : wpAny (model prog w) A (tryCompare (.ref x) "__ne__" b) (fun r s' => ∃ v, r = some v ∧ Q v s') E s := by
    unfold tryCompare
    refine wpAny_bind (ifBound_ne X I hne (wpAny_call (codeAny_call_builtin F.cmp_object.ne.plain F.cmpEntry_ne (PySem.W.check_slot F.cmpKind_ne F.cmpSplit_ne (I.type.andThen (PySem.W.looks_mroIn X hm)) (F.cmpArgs_ne _ _)
      (entry_ne (A := A.in1) X I hs hf hu (wpAny_mono h (fun v s' hv => ?_) fun _ _ e => e))))))
    obtain ⟨r, rfl, hq⟩ := hv
    first
      | exact ⟨r, rfl, wpAny_pure ⟨_, rfl, hq⟩⟩
      | exact ⟨r, rfl, wpAny_pure (wpAny_pure ⟨_, rfl, hq⟩)⟩
      | exact ⟨r, rfl, _, rfl, hq⟩
  unfold richCompare
  simp only [oneThing_ref]
  refine wpAny_holding (wpAny_bind (wpAny_cRoomFor (Nat.lt_of_succ_lt hu) ?_))
  refine wpAny_bind (I.type.here (wpAny_bind (hb.here ?_)))
  split
  · rename_i q
    have e : PySem.W.subIn K tb (.ref C) = some false := by
      rcases Bool.or_eq_true_iff.mp hn with e | e
      · rw [beq_iff_eq.mp e] at q; simp at q
      · exact beq_iff_eq.mp e
    refine wpAny_bind ((PySem.W.looks_subIn X e).here ?_)
    simp only [Bool.false_eq_true, if_false]
    refine wpAny_bind (wpAny_mono one (fun r s' z => ?_) fun _ _ e => e)
    obtain ⟨v, rfl, hq⟩ := z
    exact wpAny_pure hq
  · refine wpAny_bind (wpAny_pure ?_)
    simp only [Bool.false_eq_true, if_false]
    refine wpAny_bind (wpAny_mono one (fun r s' z => ?_) fun _ _ e => e)
    obtain ⟨v, rfl, hq⟩ := z
    exact wpAny_pure hq
end
section
variable {X : Cx} {n : Nat} {CX : CXT} {C f : Addr} {fd : FuncData} {ps : List Str} {sp : Sp} {E : XK}
/-- a def of the text, called from below -/
theorem call_own (F : FnOk X.prog X.w X.K X.mg X.base CX n f fd ps sp) (hb : Binds X.K fd ps []) (hx : Passes CX X E) {A : Around} (sb : Sub X n A) {pins : List (Addr × Obj)} {σ : L2.St} {H : Hp} {s : Shared} (I : Inv X pins σ H s) {vs : List V} {us : List Value} (r2 : Vals vs us) {Q : VK} (hsp : sp vs H Q E) :
    wpAny (model X.prog X.w) A (call (.ref f) us) (fun v s' => ∃ z H', Inv X pins σ H' s' ∧ RelV z v ∧ Q z H') X.xe s := by
  have e0 : Env0 X.prog X.w X.K X.mg X.base A X.stack s H := by
    have e := I.env0
    exact ⟨by rw [sb.fr]; exact e.frames, e.mod, e.bs, e.bsz, e.funs, e.frf, e.hok, e.bare⟩
  have hl := F.len _ _ _ _ hsp
  refine wpAny_call (codeAny_mono (F.run A X.stack s H ⟨us, []⟩ us vs _ E sb.room e0 (by
    have := hb s us I.kIn (by rw [List.append_nil, ← r2.length]; exact hl)
    simpa using this) r2 hsp) fun r s' hq => ?_)
  cases r with
  | error e => exact hx pins σ H s e s' I hq
  | ok fl =>
    cases fl with
    | ret w =>
      obtain ⟨z, H', I', rz, ez⟩ := I.after hq
      exact ⟨z, H', I', rz, ez⟩
    | next => exact False.elim hq
    | brk => exact False.elim hq
    | cont => exact False.elim hq
/-- what == (neg: !=) of two instances of the class asks -/
def rOwn (C : Addr) (sp : Sp) (E : XK) (neg : Bool) : R2 := fun x y H Q => ∃ a b dx dy fs gs, x = .ref a ∧ y = .ref b ∧ H a = some (.ins C dx fs) ∧ H b = some (.ins C dy gs) ∧ sp [.ref a, .ref b] H (fun v H' => ∃ r, v = .bl r ∧ Q (.bl (neg != r)) H') E
theorem op_eqOwn (F : FnOk X.prog X.w X.K X.mg X.base CX n f fd ps sp) (hr : Room n X.A) (hs : PySem.W.findIn X.K (.ref C) "__eq__" = some (some (.ref f))) (hf : PySem.W.isFn X.K (.ref f) = true) (hb : Binds X.K fd ps []) (hx : Passes CX X E) : OpR X (compareOp .Eq) (rOwn C sp E false) := by
  intro pins s σ H x y v u Q I rx ry hq
  obtain ⟨a, b, dx, dy, fs, gs, rfl, rfl, ha, hb', hsp⟩ := hq
  cases rx
  cases ry
  obtain ⟨mA, J, _⟩ := ins_get I.hok ha
  obtain ⟨mB, J', _⟩ := ins_get I.hok hb'
  obtain ⟨od, J, _⟩ := J.look
  obtain ⟨od', J', _⟩ := J'.look
  have sb : Sub X n X.A := ⟨hr, rfl⟩
  have r2 : Vals [V.ref a, V.ref b] [Value.ref a, Value.ref b] := .cons rfl (.cons rfl .nil)
  obtain ⟨m, hF⟩ := I.fr
  show wpAny (model X.prog X.w) X.A (richCompare .Eq _ _) (EP X pins σ Q) X.xe s
  refine PySem.W.cmp_K (op := .Eq) (tb := .ref C) sb.room.units0 hF I.ok.mod.kin J J'.type (by simp [PySem.W.notFirst]) hs hf ?_
  refine wpAny_mono (call_own F hb hx sb I r2 hsp) (fun v s' hv => ?_) fun _ _ e => e
  obtain ⟨z, H', I', rz, r, rfl, q⟩ := hv
  cases rz
  exact ⟨.bl r, H', I', rfl, by cases r <;> exact q⟩
theorem op_neOwn (F : FnOk X.prog X.w X.K X.mg X.base CX n f fd ps sp) (hr : Room (n + 1) X.A) (hs : PySem.W.findIn X.K (.ref C) "__eq__" = some (some (.ref f))) (hf : PySem.W.isFn X.K (.ref f) = true) (hm : PySem.W.mroIn X.K C (.type "object") = some true)
    (hne : PySem.W.findIn X.K (.ref C) "__ne__" = some (some (.builtin "object.__ne__"))) (hb : Binds X.K fd ps []) (hx : Passes CX X E) : OpR X (compareOp .NotEq) (rOwn C sp E true) := by
  intro pins s σ H x y v u Q I rx ry hq
  obtain ⟨a, b, dx, dy, fs, gs, rfl, rfl, ha, hb', hsp⟩ := hq
  cases rx
  cases ry
  obtain ⟨mA, J, _⟩ := ins_get I.hok ha
  obtain ⟨mB, J', _⟩ := ins_get I.hok hb'
  obtain ⟨od, J, _⟩ := J.look
  obtain ⟨od', J', _⟩ := J'.look
  have sb : Sub X (n + 1) X.A := ⟨hr, rfl⟩
  have r2 : Vals [V.ref a, V.ref b] [Value.ref a, Value.ref b] := .cons rfl (.cons rfl .nil)
  show wpAny (model X.prog X.w) X.A (richCompare .NotEq _ _) (EP X pins σ Q) X.xe s
  refine rc_ne (tb := .ref C) sb.in1.room.units0 I.kIn J J'.type (by simp [PySem.W.notFirst]) hm hs hf hne ?_
  refine wpAny_mono (call_own F hb hx sb.in1 I r2 hsp) (fun v s' hv => ?_) fun _ _ e => e
  obtain ⟨z, H', I', rz, r, rfl, q⟩ := hv
  cases rz
  exact ⟨r, rfl, .bl (!r), H', I', rfl, by cases r <;> exact q⟩
end
end GN

set_option pp.maxSteps 900
/-! _best_places -/
namespace P5P
open PySem PySem.Spec PyProof.Rows L2 KA KD PH PM RM RN K55b K55d
abbrev sBP : Stmt := topS 20
theorem scBP : FnScope ["first", "second", "places", "at", "low", "high", "inner", "place", "outer", "free", "_", "end", "found"] ["first", "second"] (defScope sBP) := ⟨rfl, rfl, rfl, by decide +kernel, rfl, by decide +kernel, by decide +kernel⟩
def at0 (rs : List (Int × Int)) (i : Nat) : Int × Int := (rs[i]?).getD (0, 0)
def k3 (rs : List (Int × Int)) (i : Nat) : List Int := [(at0 rs i).1, (at0 rs i).2, (i : Int)]
/-- tuples of ints stand at the refs of xs -/
def TAt (H : Hp) : List V → List (List Int) → Prop
  | [], [] => True
  | x :: xs, l :: ls => (∃ p, x = .ref p ∧ H p = some (.tup (l.map V.int))) ∧ TAt H xs ls
  | _, _ => False
theorem TAt.map {H H' : Hp} (e : ∀ p (l : List Int), H p = some (.tup (l.map V.int)) → H' p = some (.tup (l.map V.int))) : ∀ {xs : List V} {ls : List (List Int)}, TAt H xs ls → TAt H' xs ls
  | [], [], _ => trivial
  | x :: xs, l :: ls, ⟨⟨p, h1, h2⟩, h3⟩ => ⟨⟨p, h1, e p l h2⟩, TAt.map e h3⟩
  | [], _ :: _, h => h.elim
  | _ :: _, [], h => h.elim
theorem TAt.same {H H' : Hp} {xs : List V} {ls : List (List Int)} (h : TAt H xs ls) (e : Same H H') : TAt H' xs ls := h.map fun p l g => e _ _ g
theorem TAt.length {H : Hp} : ∀ {xs : List V} {ls : List (List Int)}, TAt H xs ls → xs.length = ls.length
  | [], [], _ => rfl
  | x :: xs, r :: rs, ⟨_, h3⟩ => by rw [List.length_cons, List.length_cons, TAt.length h3]
  | [], _ :: _, h => h.elim
  | _ :: _, [], h => h.elim
theorem TAt.append {H : Hp} : ∀ {xs ys : List V} {rs ss : List (List Int)}, TAt H xs rs → TAt H ys ss → TAt H (xs ++ ys) (rs ++ ss)
  | [], _, [], _, _, h => h
  | x :: xs, _, r :: rs, _, ⟨h1, h2⟩, h => ⟨h1, TAt.append h2 h⟩
  | [], _, _ :: _, _, h, _ => h.elim
  | _ :: _, _, [], _, h, _ => h.elim
theorem TAt.at {H : Hp} : ∀ {xs : List V} {ls : List (List Int)} {i : Nat} {x : V}, TAt H xs ls → xs[i]? = some x → ∃ l p, ls[i]? = some l ∧ x = .ref p ∧ H p = some (.tup (l.map V.int))
  | [], [], _, _, _, e => by simp at e
  | x :: xs, r :: cs, 0, _, ⟨⟨p, h1, h2⟩, h3⟩, e => by
    simp only [List.getElem?_cons_zero, Option.some.injEq] at e
    subst e
    exact ⟨r, p, rfl, h1, h2⟩
  | x :: xs, r :: cs, i + 1, _, ⟨_, h3⟩, e => TAt.at (i := i) h3 e
  | [], _ :: _, _, _, h, _ => h.elim
  | _ :: _, [], _, _, h, _ => h.elim
/-- the ints at a ref -/
def kT (H : Hp) : V → List Int
  | .ref p => match H p with
    | some (.tup xs) => xs.map fun v => match v with | .int i => i | _ => 0
    | _ => []
  | _ => []
theorem kT_at {H : Hp} {p : Addr} {l : List Int} (h : H p = some (.tup (l.map V.int))) : kT H (.ref p) = l := by
  show (match H p with | some (.tup xs) => xs.map (fun v => match v with | .int i => i | _ => 0) | _ => []) = l
  rw [h]
  show (l.map V.int).map _ = l
  rw [List.map_map]
  exact (List.map_congr_left fun _ _ => rfl).trans (List.map_id l)
/-- the place that a triple tells -/
def gT (H : Hp) (v : V) : Nat := ((kT H v).getD 2 0).toNat
theorem tat_of {H : Hp} {rs : List (Int × Int)} : ∀ {ys : List V}, (∀ y ∈ ys, ∃ p, y = .ref p ∧ H p = some (.tup ((k3 rs (gT H y)).map V.int))) → TAt H ys ((ys.map (gT H)).map (k3 rs))
  | [], _ => trivial
  | y :: ys, h => ⟨h y List.mem_cons_self, tat_of fun z hz => h z (List.mem_cons_of_mem _ hz)⟩
theorem tat_mem {H : Hp} {rs : List (Int × Int)} : ∀ {xs : List V} {L : List Nat}, TAt H xs (L.map (k3 rs)) → xs.map (gT H) = L ∧ ∀ y ∈ xs, ∃ p, y = .ref p ∧ H p = some (.tup ((k3 rs (gT H y)).map V.int)) ∧ kT H y = k3 rs (gT H y)
  | [], [], _ => ⟨rfl, fun _ z => (List.not_mem_nil z).elim⟩
  | x :: xs, j :: L, ⟨⟨p, h1, h2⟩, h3⟩ => by
    obtain ⟨e, all⟩ := tat_mem h3
    subst h1
    have k := kT_at h2
    have g : gT H (.ref p) = j := by
      unfold gT
      rw [k]
      show ((j : Int)).toNat = j
      omega
    refine ⟨by rw [List.map_cons, g, e], fun y hy => ?_⟩
    rcases List.mem_cons.mp hy with z | z
    · subst z
      exact ⟨p, rfl, by rw [g]; exact h2, by rw [g]; exact k⟩
    · exact all y z
  | [], _ :: _, h => h.elim
  | _ :: _, [], h => h.elim
def ordL (rs : List (Int × Int)) (i j : Nat) : Prop := HT.lexLt (k3 rs j) (k3 rs i) = false
theorem sorted_trips {H : Hp} {rs : List (Int × Int)} {xs ys : List V} {n : Nat} (h : TAt H xs ((List.range n).map (k3 rs))) (srt : ys.Pairwise fun x y => HT.lexLt (kT H y) (kT H x) = false) (pm : ys.Perm xs) :
    ∃ L : List Nat, TAt H ys (L.map (k3 rs)) ∧ L.Perm (List.range n) ∧ L.Pairwise (ordL rs) := by
  obtain ⟨e, all⟩ := tat_mem h
  have all2 : ∀ y ∈ ys, ∃ p, y = .ref p ∧ H p = some (.tup ((k3 rs (gT H y)).map V.int)) ∧ kT H y = k3 rs (gT H y) := fun y hy => all y (pm.mem_iff.mp hy)
  refine ⟨ys.map (gT H), tat_of fun y hy => ?_, ?_, ?_⟩
  · obtain ⟨p, h1, h2, _⟩ := all2 y hy
    exact ⟨p, h1, h2⟩
  · rw [← e]
    exact pm.map _
  · rw [List.pairwise_map]
    refine srt.imp_of_mem fun {x y} hx hy z => ?_
    obtain ⟨_, _, _, e1⟩ := all2 x hx
    obtain ⟨_, _, _, e2⟩ := all2 y hy
    unfold ordL
    rw [← e1, ← e2]
    exact z
theorem ord_low {rs : List (Int × Int)} {i j : Nat} (h : ordL rs i j) : (at0 rs i).1 ≤ (at0 rs j).1 := by
  unfold ordL k3 at h
  rw [HT.lexLt_cons] at h
  split at h
  · omega
  · have := of_decide_eq_false h
    omega
theorem fr_ex (ss : List (Int × Int)) : ∃ fr : List Nat, fr.Perm (List.range ss.length) ∧ (fr.map (pr (at0 ss))).Pairwise Le := by
  refine ⟨(List.range ss.length).mergeSort (fun p q => decide (Le (pr (at0 ss) p) (pr (at0 ss) q))), List.mergeSort_perm _ _, ?_⟩
  rw [List.pairwise_map]
  refine (List.pairwise_mergeSort (le := fun p q => decide (Le (pr (at0 ss) p) (pr (at0 ss) q))) (fun a b c h1 h2 => ?_) (fun a b => ?_) _).imp fun {x y} h => of_decide_eq_true h
  · have h1 := of_decide_eq_true h1
    have h2 := of_decide_eq_true h2
    refine decide_eq_true ?_
    simp only [Le] at *
    omega
  · rw [Bool.or_eq_true, decide_eq_true_iff, decide_eq_true_iff]
    simp only [Le]
    omega
/-- the list of places that was found -/
def res (d : List (Nat × Option Nat)) (n : Nat) : List V := (List.range n).map fun i => match d.lookup i with | some (some p) => V.int (p : Int) | _ => V.non
theorem res_nil (n : Nat) : res [] n = List.replicate n V.non := by
  unfold res
  rw [List.eq_replicate_iff]
  refine ⟨by rw [List.length_map, List.length_range], fun b hb => ?_⟩
  obtain ⟨i, _, rfl⟩ := List.mem_map.mp hb
  rfl
theorem res_len (d : List (Nat × Option Nat)) (n : Nat) : (res d n).length = n := by unfold res; rw [List.length_map, List.length_range]
theorem look_app (d : List (Nat × Option Nat)) (a i : Nat) (o : Option Nat) (h : a ∉ d.map (·.1)) : (d ++ [(a, o)]).lookup i = if i = a then some o else d.lookup i := by
  induction d with
  | nil =>
    show List.lookup i [(a, o)] = _
    unfold List.lookup
    by_cases e : i = a
    · rw [if_pos e, e]; simp
    · rw [if_neg e]
      have : (i == a) = false := by simpa using e
      rw [this]
      rfl
  | cons x d ih =>
    obtain ⟨y, z⟩ := x
    have h1 : a ≠ y := fun e => h (by rw [e]; exact List.mem_cons_self)
    have ih := ih fun m => h (List.mem_cons_of_mem _ m)
    show List.lookup i ((y, z) :: (d ++ [(a, o)])) = _
    rw [List.lookup_cons, List.lookup_cons, ih]
    by_cases e : i = y
    · subst e
      have ne : ¬ i = a := fun q => h1 q.symm
      simp [ne]
    · have : (i == y) = false := by simpa using e
      rw [this]
theorem res_none {d : List (Nat × Option Nat)} {n a : Nat} (h : a ∉ d.map (·.1)) (hd : d.lookup a = none) : res (d ++ [(a, none)]) n = res d n := by
  unfold res
  refine List.map_congr_left fun i _ => ?_
  rw [look_app d a i none h]
  by_cases e : i = a
  · subst e; rw [if_pos rfl, hd]
  · rw [if_neg e]
theorem res_some {d : List (Nat × Option Nat)} {n a p : Nat} (h : a ∉ d.map (·.1)) (ha : a < n) : res (d ++ [(a, some p)]) n = (res d n).set a (.int (p : Int)) := by
  refine List.ext_getElem? fun i => ?_
  unfold res
  rw [List.getElem?_set, List.getElem?_map, List.getElem?_map, List.length_map, List.length_range]
  by_cases hi : i < n
  · rw [List.getElem?_range hi]
    simp only [Option.map_some]
    rw [look_app d a i _ h]
    by_cases e : a = i
    · subst e; rw [if_pos rfl, if_pos rfl, if_pos ha]
    · rw [if_neg (fun z => e z.symm), if_neg e]
  · rw [List.getElem?_eq_none (by rw [List.length_range]; omega)]
    split
    · omega
    · rfl
theorem lookup_none {d : List (Nat × Option Nat)} {a : Nat} (h : a ∉ d.map (·.1)) : d.lookup a = none := by
  induction d with
  | nil => rfl
  | cons x d ih =>
    obtain ⟨y, z⟩ := x
    rw [List.lookup_cons]
    have : (a == y) = false := by
      have : a ≠ y := fun e => h (by rw [e]; exact List.mem_cons_self)
      simpa using this
    rw [this]
    exact ih fun m => h (List.mem_cons_of_mem _ m)
/-- the pairs (an end, its place), sorted: the places by their ends -/
theorem by_ends {g : Nat → Int} {n : Nat} {ds : List (Int × Int)} (p : ds.Perm ((List.range n).map fun j => (g j, (j : Int)))) (s : ds.Pairwise Le) : ∃ L : List Nat, ds = L.map (fun j => (g j, (j : Int))) ∧ L.Perm (List.range n) ∧ (L.map g).Pairwise (· ≤ ·) := by
  have key : ∀ d ∈ ds, d = (g d.2.toNat, ((d.2.toNat : Nat) : Int)) := fun d hd => by
    obtain ⟨j, _, rfl⟩ := List.mem_map.mp (p.mem_iff.mp hd)
    simp
  refine ⟨ds.map fun d => d.2.toNat, ?_, ?_, ?_⟩
  · rw [List.map_map]
    have := List.map_congr_left (f := fun d => d) (g := (fun j => (g j, (j : Int))) ∘ fun d : Int × Int => d.2.toNat) (l := ds) key
    simpa using this
  · have := p.map fun d : Int × Int => d.2.toNat
    rw [List.map_map] at this
    have e : ((fun d : Int × Int => d.2.toNat) ∘ fun j : Nat => (g j, (j : Int))) = id := by funext j; simp
    rw [e, List.map_id] at this
    exact this
  · rw [List.map_map, List.pairwise_map]
    refine s.imp_of_mem fun {c d} hc hd h => ?_
    have h1 : c.1 = g c.2.toNat := congrArg Prod.fst (key c hc)
    have h2 : d.1 = g d.2.toNat := congrArg Prod.fst (key d hd)
    have h3 : c.1 ≤ d.1 := by unfold Le at h; omega
    show g c.2.toNat ≤ g d.2.toNat
    rw [← h1, ← h2]
    exact h3
theorem pairs_upd {H : Hp} {R : Addr} {l l' : List V} (e : H R = some (.lst l)) : ∀ {xs : List V} {rs : List (Int × Int)}, PairsAt H xs rs → PairsAt (upd H R (.lst l')) xs rs
  | [], [], _ => trivial
  | x :: xs, r :: rs, ⟨⟨p, h1, h2⟩, h3⟩ => ⟨⟨p, h1, by rw [upd_ne (fun z => by rw [z, e] at h2; cases h2)]; exact h2⟩, pairs_upd e h3⟩
  | [], _ :: _, h => h.elim
  | _ :: _, [], h => h.elim
theorem flat_rep (n : Nat) : (List.replicate n [V.non]).flatten = List.replicate n V.non := by
  induction n with
  | zero => rfl
  | succ n ih => rw [List.replicate_succ, List.flatten_cons, ih]; rfl
theorem tat_upd {H : Hp} {R : Addr} {l : List V} {o : HO} (e : H R = some (.lst l)) {xs : List V} {ls : List (List Int)} (h : TAt H xs ls) : TAt (upd H R o) xs ls :=
  h.map fun p t g => by rw [upd_ne (fun z => by rw [z, e] at g; cases g)]; exact g
theorem pr_at {H : Hp} : ∀ {xs : List V} {cs : List (Int × Int)} {i : Nat} {x : V}, PairsAt H xs cs → xs[i]? = some x → ∃ r p, cs[i]? = some r ∧ x = .ref p ∧ H p = some (.tup [.int r.1, .int r.2])
  | [], [], _, _, _, e => by simp at e
  | x :: xs, r :: cs, 0, _, ⟨⟨p, h1, h2⟩, h3⟩, e => by
    simp only [List.getElem?_cons_zero, Option.some.injEq] at e
    subst e
    exact ⟨r, p, rfl, h1, h2⟩
  | x :: xs, r :: cs, i + 1, _, ⟨_, h3⟩, e => pr_at (i := i) h3 e
  | [], _ :: _, _, _, h, _ => h.elim
  | _ :: _, [], _, _, h, _ => h.elim
theorem sIx {k n : Nat} (h : k < n) : seqIndex? ((k : Nat) : Int) n = some k := by
  unfold seqIndex?
  have e : ¬ ((k : Nat) : Int) < 0 := by omega
  simp only [e, if_false]
  have e2 : (decide (0 ≤ ((k : Nat) : Int)) && decide (((k : Nat) : Int) < (n : Int))) = true := by
    rw [decide_eq_true (by omega), decide_eq_true (by omega)]; rfl
  rw [if_pos e2]
  simp
/-- the state of the loop's things -/
structure Lp (H : Hp) (p2 p3 c fa : Addr) (ys2 : List V) (rs ss : List (Int × Int)) (L fr0 : List Nat) (i : Nat) (Hz : Hp) (pre : List (Nat × Option Nat)) (fr O : List Nat) (zs fs : List V) : Prop where
  sm : Same H Hz
  e2 : Hz p2 = some (.lst ys2)
  t2 : TAt Hz ys2 (L.map (k3 rs))
  ec : Hz c = some (.lst (res pre rs.length))
  go : go (at0 rs) (at0 ss) L fr0 = pre ++ K55b.go (at0 rs) (at0 ss) (L.drop i) fr
  pf : pre.map (·.1) = L.take i
  e3 : Hz p3 = some (.lst zs.reverse)
  t3 : TAt Hz zs (O.map (k3 ss))
  ef : Hz fa = some (.lst fs)
  pr : PairsAt Hz fs ((fr.filter (keep O)).map (pr (at0 ss)))
  nd : fr.Nodup
  srt : (fr.map (K55d.pr (at0 ss))).Pairwise Le
  ofr : ∀ q ∈ O, q ∈ fr
  ond : O.Nodup
  osr : O.Pairwise (ordL ss)
  low : ∀ q ∈ fr, q ∉ O → ∀ a ∈ L.drop i, (at0 ss q).1 ≤ (at0 rs a).1
  len : fr.length ≤ 500
theorem pairs_erase {H : Hp} : ∀ {xs : List V} {rs : List (Int × Int)} (j : Nat), PairsAt H xs rs → PairsAt H (xs.eraseIdx j) (rs.eraseIdx j)
  | [], [], _, _ => trivial
  | x :: xs, r :: rs, 0, ⟨_, h⟩ => h
  | x :: xs, r :: rs, j + 1, ⟨h1, h2⟩ => ⟨h1, pairs_erase j h2⟩
  | [], _ :: _, _, h => h.elim
  | _ :: _, [], _, h => h.elim
section
variable {H Hz Hv : Hp} {p2 p3 c fa : Addr} {ys2 : List V} {rs ss : List (Int × Int)} {L fr0 : List Nat} {i : Nat} {pre : List (Nat × Option Nat)} {fr O : List Nat} {zs fs : List V}
theorem Lp.same (g : Lp H p2 p3 c fa ys2 rs ss L fr0 i Hz pre fr O zs fs) (s : Same Hz Hv) : Lp H p2 p3 c fa ys2 rs ss L fr0 i Hv pre fr O zs fs :=
  ⟨g.sm.trans s, s _ _ g.e2, g.t2.same s, s _ _ g.ec, g.go, g.pf, s _ _ g.e3, g.t3.same s, s _ _ g.ef, g.pr.same s, g.nd, g.srt, g.ofr, g.ond, g.osr, g.low, g.len⟩
theorem Lp.no (g : Lp H p2 p3 c fa ys2 rs ss L fr0 i Hz pre fr O zs fs) {a : Nat} (ea : L[i]? = some a) (ndL : L.Nodup) (hf : fr.find? (fun p => hasB (at0 ss p) (at0 rs a)) = none) :
    Lp H p2 p3 c fa ys2 rs ss L fr0 (i + 1) Hz (pre ++ [(a, none)]) fr O zs fs := by
  have hd : L.drop i = a :: L.drop (i + 1) := by
    obtain ⟨h1, h2⟩ := List.getElem?_eq_some_iff.mp ea
    rw [List.drop_eq_getElem_cons h1, h2]
  have ht : L.take (i + 1) = L.take i ++ [a] := by rw [List.take_add_one, ea, Option.toList_some]
  have hn : a ∉ pre.map (·.1) := by
    rw [g.pf]
    have := ndL
    rw [← List.take_append_drop i L, hd] at this
    exact fun m => (List.nodup_append.mp this).2.2 a m a List.mem_cons_self rfl
  refine ⟨g.sm, g.e2, g.t2, ?_, ?_, ?_, g.e3, g.t3, g.ef, g.pr, g.nd, g.srt, g.ofr, g.ond, g.osr, fun q m n b hb => g.low q m n b (by rw [hd]; exact List.mem_cons_of_mem _ hb), g.len⟩
  · rw [res_none hn (lookup_none hn)]
    exact g.ec
  · rw [g.go, hd, List.append_assoc]
    show pre ++ K55b.go _ _ (a :: L.drop (i + 1)) fr = _
    simp only [K55b.go, hf]
    rfl
  · rw [List.map_append, g.pf, ht]
    rfl
theorem Lp.yes (g : Lp H p2 p3 c fa ys2 rs ss L fr0 i Hz pre fr O zs fs) {a p j : Nat} (ea : L[i]? = some a) (ndL : L.Nodup) (han : a < rs.length) (hf : fr.find? (fun p => hasB (at0 ss p) (at0 rs a)) = some p) (hp : p ∈ fr) (hpO : p ∉ O)
    (er : ((fr.filter (keep O)).map (K55d.pr (at0 ss))).eraseIdx j = ((fr.erase p).filter (keep O)).map (K55d.pr (at0 ss))) (nf0 : H fa = none) (nc0 : H c = none) (nfc : fa ≠ c) (nf2 : fa ≠ p2) (nf3 : fa ≠ p3) (n2c : p2 ≠ c) (n3c : p3 ≠ c) :
    Lp H p2 p3 c fa ys2 rs ss L fr0 (i + 1) (upd (upd Hz fa (.lst (fs.eraseIdx j))) c (.lst ((res pre rs.length).set a (.int (p : Int))))) (pre ++ [(a, some p)]) (fr.erase p) O zs (fs.eraseIdx j) := by
  have hd : L.drop i = a :: L.drop (i + 1) := by
    obtain ⟨h1, h2⟩ := List.getElem?_eq_some_iff.mp ea
    rw [List.drop_eq_getElem_cons h1, h2]
  have ht : L.take (i + 1) = L.take i ++ [a] := by rw [List.take_add_one, ea, Option.toList_some]
  have hn : a ∉ pre.map (·.1) := by
    rw [g.pf]
    have := ndL
    rw [← List.take_append_drop i L, hd] at this
    exact fun m => (List.nodup_append.mp this).2.2 a m a List.mem_cons_self rfl
  have ec1 : (upd Hz fa (.lst (fs.eraseIdx j))) c = some (.lst (res pre rs.length)) := by rw [upd_ne nfc.symm]; exact g.ec
  refine ⟨same_again nc0 (same_again nf0 g.sm), by rw [upd_ne n2c, upd_ne nf2.symm]; exact g.e2, tat_upd ec1 (tat_upd g.ef g.t2), ?_, ?_, ?_, by rw [upd_ne n3c, upd_ne nf3.symm]; exact g.e3, tat_upd ec1 (tat_upd g.ef g.t3), by rw [upd_ne nfc, upd_same], ?_, g.nd.erase _, g.srt.sublist (List.Sublist.map _ List.erase_sublist), fun q m => ?_, g.ond, g.osr, fun q m n b hb => g.low q (List.mem_of_mem_erase m) n b (by rw [hd]; exact List.mem_cons_of_mem _ hb), Nat.le_trans (List.length_erase_le) g.len⟩
  · rw [res_some hn han]
    exact upd_same
  · rw [g.go, hd, List.append_assoc]
    show pre ++ K55b.go _ _ (a :: L.drop (i + 1)) fr = _
    simp only [K55b.go, hf]
    rfl
  · rw [List.map_append, g.pf, ht]
    rfl
  · rw [← er]
    have := pairs_erase j g.pr
    have h1 : PairsAt (upd Hz fa (.lst (fs.eraseIdx j))) (fs.eraseIdx j) (((fr.filter (keep O)).map (K55d.pr (at0 ss))).eraseIdx j) := pairs_upd g.ef this
    exact pairs_upd ec1 h1
  · exact (g.nd.mem_erase_iff).mpr ⟨fun z => hpO (by rw [← z]; exact m), g.ofr q m⟩
theorem Lp.pop {q : Nat} {z : V} {v : Addr} {fs' : List V} {rs' : List (Int × Int)} (g : Lp H p2 p3 c fa ys2 rs ss L fr0 i Hz pre fr (q :: O) (z :: zs) fs) (hlow : ∀ a ∈ L.drop i, (at0 ss q).1 ≤ (at0 rs a).1)
    (nv : (upd Hz p3 (.lst zs.reverse)) v = none) (hp : PairsAt (upd (upd Hz p3 (.lst zs.reverse)) v (.tup [.int (at0 ss q).2, .int (q : Int)])) fs' rs') (pm : rs'.Perm (K55d.pr (at0 ss) q :: (fr.filter (keep (q :: O))).map (K55d.pr (at0 ss)))) (st : rs'.Pairwise Le)
    (nf0 : H fa = none) (n30 : H p3 = none) (nfc : fa ≠ c) (nf2 : fa ≠ p2) (nf3 : fa ≠ p3) (n3c : p3 ≠ c) (n32 : p3 ≠ p2) :
    Lp H p2 p3 c fa ys2 rs ss L fr0 i (upd (upd (upd Hz p3 (.lst zs.reverse)) v (.tup [.int (at0 ss q).2, .int (q : Int)])) fa (.lst fs')) pre fr O zs fs' := by
  have nO := List.nodup_cons.mp g.ond
  have e := K55d.push g.srt g.nd (g.ofr q List.mem_cons_self) nO.1 pm st
  have sv := same_new nv (o := .tup [.int (at0 ss q).2, .int (q : Int)])
  have ef1 : (upd (upd Hz p3 (.lst zs.reverse)) v (.tup [.int (at0 ss q).2, .int (q : Int)])) fa = some (.lst fs) := sv _ _ (by rw [upd_ne nf3]; exact g.ef)
  refine ⟨same_again nf0 ((same_again n30 g.sm).trans sv), ?_, ?_, ?_, g.go, g.pf, ?_, ?_, upd_same, ?_, g.nd, g.srt, fun x m => g.ofr x (List.mem_cons_of_mem _ m), nO.2, (List.pairwise_cons.mp g.osr).2, fun x m n b hb => ?_, g.len⟩
  · rw [upd_ne nf2.symm]
    exact sv _ _ (by rw [upd_ne n32.symm]; exact g.e2)
  · exact tat_upd ef1 ((tat_upd g.e3 g.t2).same sv)
  · rw [upd_ne nfc.symm]
    exact sv _ _ (by rw [upd_ne n3c.symm]; exact g.ec)
  · rw [upd_ne nf3.symm]
    exact sv _ _ upd_same
  · exact tat_upd ef1 ((tat_upd g.e3 g.t3.2).same sv)
  · rw [← e]
    exact pairs_upd ef1 hp
  · by_cases hx : x = q
    · subst hx
      exact hlow b hb
    · exact g.low x m (fun z => (List.mem_cons.mp z).elim hx n) b hb
end
section
variable {P : Program} {w : World} {K : PySem.W.Frag} {mg : Str → Option Value} {base : Heap}
def spBP (K : PySem.W.Frag) : Sp := fun vs H Q _ => ∃ (a b : Addr) (xs ys : List V) (rs ss : List (Int × Int)), vs = [.ref a, .ref b] ∧ Sq K H a xs ∧ PairsAt H xs rs ∧ Sq K H b ys ∧ PairsAt H ys ss ∧ rs.length ≤ 500 ∧ ss.length ≤ 500 ∧
  ∀ H' c L fr0, Same H H' → H c = none → H' c = some (.lst (res (go (at0 rs) (at0 ss) L fr0) rs.length)) → L.Perm (List.range rs.length) → L.Pairwise (ordL rs) → fr0.Perm (List.range ss.length) → (fr0.map (pr (at0 ss))).Pairwise Le → Q (.ref c) H'
theorem ok_BP {f fPI fPT : Addr} {fd dPI dPT : FuncData} {k : Nat} (F : Fun K "_best_places" "_best_places" sBP f fd)
    (GPI : FnOk P w K mg base CX0 (k + 2) fPI dPI ["row", "value"] BO.spPI) (gPI : mg "place_in" = some (.ref fPI)) (kPI : PySem.W.keepIn K (.ref fPI) = true) (bPI : Binds K dPI ["row", "value"] [])
    (GPT : FnOk P w K mg base CX0 (k + 2) fPT dPT ["row", "value"] BO.spPT) (gPT : mg "put_in" = some (.ref fPT)) (kPT : PySem.W.keepIn K (.ref fPT) = true) (bPT : Binds K dPT ["row", "value"] [])
    (ml : mg "len" = none) (ms : mg "sorted" = none) (me : mg "enumerate" = none) : FnOk P w K mg base CX0 (k + 3) f fd ["first", "second"] (spBP K) := by
  refine F.ok scBP (fun vs H Q E h => ?_) (fun cdv A outer s H vs Q E hr h => ?_)
  · obtain ⟨a, b, xs, ys, rs, ss, rfl, _⟩ := h
    rfl
  · obtain ⟨a, b, xs, ys, rs, ss, rfl, hA, pa, hB, pb, la, lb, hq⟩ := h
    refine ⟨_, (pss_cons (ps_set (i := 2) scBP.nd rfl (.inl rfl) (pe_op op_rep (pe_lst (pa_cons pe_non pa_nil)) (pe_callB call_len_seq (by rfl) ml PySem.boot_len (pa_cons (pv 0) pa_nil))))
      (pss_cons (ps_set (i := 6) scBP.nd rfl (.inl rfl) (pe_callB GS3.cr_sortedT3 (by rfl) ms (by decide +kernel) (pa_cons (pe_lc (own := [("at", 3), ("low", 4), ("high", 5)]) (g := gTup K 2 (gCons (gName 3) (gCons (gTup K 2 (gCons (gName 4) (gCons (gName 5) gNil))) gNil))) (tt := tYes) rfl scBP.nd (GE.pi_enumS (by rfl) me (pa_cons (pv 0) pa_nil)) (blkOk_by (own := [("at", 3), ("low", 4), ("high", 5)]) (N := ["first", "second", "places", "at", "low", "high", "inner", "place", "outer", "free", "_", "end", "found"]) (sc := defScope sBP) (by decide +kernel)) (fun _ _ _ _ _ => (pg_tup rfl (pgs_cons (pg_name (i := 3) scBP.nd rfl (Or.inl rfl) (Or.inr rfl)) (pgs_cons (pg_tup rfl (pgs_cons (pg_name (i := 4) scBP.nd rfl (Or.inl rfl) (Or.inr rfl)) (pgs_cons (pg_name (i := 5) scBP.nd rfl (Or.inl rfl) (Or.inr rfl)) pgs_nil))) pgs_nil)))) (fun _ _ _ _ _ => pts_nil) (fun _ _ _ _ _ => (pe_tup (pa_cons (pv 4) (pa_cons (pv 5) (pa_cons (pv 3) pa_nil)))))) pa_nil)))
      (pss_cons (ps_set (i := 8) scBP.nd rfl (.inl rfl) (pe_callBK GS3.cr_sortedT3R (by rfl) ms (by decide +kernel) (pa_cons (pe_lc (own := [("place", 7), ("low", 4), ("high", 5)]) (g := gTup K 2 (gCons (gName 7) (gCons (gTup K 2 (gCons (gName 4) (gCons (gName 5) gNil))) gNil))) (tt := tYes) rfl scBP.nd (GE.pi_enumS (by rfl) me (pa_cons (pv 1) pa_nil)) (blkOk_by (own := [("place", 7), ("low", 4), ("high", 5)]) (N := ["first", "second", "places", "at", "low", "high", "inner", "place", "outer", "free", "_", "end", "found"]) (sc := defScope sBP) (by decide +kernel)) (fun _ _ _ _ _ => (pg_tup rfl (pgs_cons (pg_name (i := 7) scBP.nd rfl (Or.inl rfl) (Or.inr rfl)) (pgs_cons (pg_tup rfl (pgs_cons (pg_name (i := 4) scBP.nd rfl (Or.inl rfl) (Or.inr rfl)) (pgs_cons (pg_name (i := 5) scBP.nd rfl (Or.inl rfl) (Or.inr rfl)) pgs_nil))) pgs_nil)))) (fun _ _ _ _ _ => pts_nil) (fun _ _ _ _ _ => (pe_tup (pa_cons (pv 4) (pa_cons (pv 5) (pa_cons (pv 7) pa_nil)))))) pa_nil) (pk_cons pe_bl pk_nil)))
      (pss_cons (ps_set (i := 9) scBP.nd rfl (.inl rfl) (pe_lst pa_nil))
      (pss_cons (ps_for PassesOwn.never rfl (pi_list (pv 6)) (pg_tup rfl (pgs_cons (pg_name (i := 4) scBP.nd rfl (.inl rfl)) (pgs_cons (pg_name (i := 5) scBP.nd rfl (.inl rfl)) (pgs_cons (pg_name (i := 3) scBP.nd rfl (.inl rfl)) pgs_nil))))
      (pss_cons (ps_while PassesOwn.never (PW.pt (pw_and (pt_truth (pv 8) (by intro _; rfl)) (pw_and1 (pt_cmpR op_le (pe_ix ix_tup (pe_ix ix_list (pv 8) (pe_un un_neg pe_int) (fun _ _ => rfl)) pe_int (fun _ _ => rfl)) (pv 4) (nomark _)))))
      (pss_cons (ps_asg (pe_bm0 PySem.F.plainAttrs_list PySem.F.slot_list_pop PySem.F.type_list_pop mt_pop (pv 8)) (pg_tup rfl (pgs_cons (pg_name (i := 10) scBP.nd rfl (.inl rfl)) (pgs_cons (pg_name (i := 11) scBP.nd rfl (.inl rfl)) (pgs_cons (pg_name (i := 7) scBP.nd rfl (.inl rfl)) pgs_nil)))))
      (pss_one (ps_expr (pe_call GPT hr (by rfl) gPT kPT bPT .nil pass0 (pa_cons (pv 9) (pa_cons (pe_tup (pa_cons (pv 11) (pa_cons (pv 7) pa_nil))) pa_nil)))))))
      (pss_cons (ps_set (i := 12) scBP.nd rfl (.inl rfl) (pe_call GPI hr (by rfl) gPI kPI bPI .nil pass0 (pa_cons (pv 9) (pa_cons (pe_tup (pa_cons (pv 5) (pa_cons pe_int pa_nil))) pa_nil))))
      (pss_one (ps_if (pt_cmpR op_lt (pv 12) (pe_callB call_len_seq (by rfl) ml PySem.boot_len (pa_cons (pv 9) pa_nil)) (nomark _)) (pss_one (ps_asg (pe_bm PySem.F.plainAttrs_list PySem.F.slot_list_pop PySem.F.type_list_pop mt_popAt (pv 9) (pa_cons (pv 12) pa_nil)) (pg_tup rfl (pgs_cons (pg_name (i := 10) scBP.nd rfl (.inl rfl)) (pgs_cons (pg_sub (pv 2) (pv 3) set_list) pgs_nil))))) pss_nil)))))
      (pss_one (ps_ret (pv 2)))))))), ?_⟩
    have l2s : 2 ≤ sizeLine := by decide
    have lxa := pa.length
    have lxb := pb.length
    refine ⟨by show 1 ≤ sizeLine; decide, fun l nl => ⟨.ref a, rfl, a, xs, rfl, (hA.same (same_new nl)), l, (xs.length : Int), [.non], rfl, rfl, upd_same, by omega, by omega, by show 1 * _ ≤ sizeLine; exact Nat.le_trans (show _ ≤ 3000 by omega) (by decide), fun c nc => ?_⟩⟩
    have s1 := (same_new (o := .lst [.non]) nl).trans (same_new (o := .lst (List.replicate (xs.length : Int).toNat [.non]).flatten) nc)
    have nc0 : H c = none := (same_new (o := .lst [.non]) nl).free nc
    have ec := upd_same (H := upd H l (.lst [.non])) (a := c) (o := .lst (List.replicate (xs.length : Int).toNat [.non]).flatten)
    generalize upd (upd H l (.lst [.non])) c (.lst (List.replicate (xs.length : Int).toNat [.non]).flatten) = H1 at s1 ec ⊢
    rw [flat_rep, Int.toNat_natCast, lxa, ← res_nil] at ec
    clear nl nc l
    refine ⟨.ref a, rfl, a, xs, rfl, hA.same s1, fun J G wk hG D nD => ?_⟩
    refine lc_it wk (fun i Hz => Same H1 Hz ∧ ∃ acc : List V, Hz D = some (.lst acc) ∧ TAt Hz acc ((List.range i).map (k3 rs))) ⟨same_new nD, [], upd_same, trivial⟩ (fun i Hz _ z => hG _ z.1) ?_ ?_
    · rintro i v Hz Hy hi ⟨sz, acc, eD, pd⟩ ⟨T, x, y, rfl, nT, rfl, hx, hy⟩
      obtain rfl : V.int (i : Int) = x := Option.some.inj hx
      obtain ⟨r, p, er, rfl, e2⟩ := pr_at pa hy
      have ea : at0 rs i = r := by unfold at0; rw [er]; rfl
      have sT := same_new (o := .tup [.int (i : Int), .ref p]) nT
      have s3 := sz.trans sT
      have hp := s3 _ _ (s1 _ _ e2)
      have la2 := pd.length
      rw [List.length_map, List.length_range] at la2
      refine ⟨T, _, rfl, SqT.of upd_same, rfl, .int (i : Int), [.ref p], rfl, .ref p, [], rfl, p, _, rfl, SqT.of hp, rfl, .int r.1, [.int r.2], rfl, .int r.2, [], rfl, rfl, rfl, rfl, iteT (B := True) ?_⟩
      refine ⟨.int r.1, rfl, .int r.2, rfl, .int (i : Int), rfl, (show 3 ≤ sizeLine by decide), fun q nq => ?_⟩
      have sq := same_new (o := .tup [.int r.1, .int r.2, .int (i : Int)]) nq
      have eD2 := sq _ _ (sT _ _ eD)
      refine ⟨acc, eD2, Nat.lt_of_le_of_lt (show acc.length ≤ 3000 by omega) (by decide), same_again nD (s3.trans sq), acc ++ [.ref q], upd_same, ?_⟩
      rw [List.range_succ, List.map_append]
      exact tat_upd eD2 (TAt.append (pd.same (sT.trans sq)) ⟨⟨q, rfl, by rw [show k3 rs i = [r.1, r.2, (i : Int)] by unfold k3; rw [ea]]; exact upd_same⟩, trivial⟩)
    rintro Hz ⟨sz, acc, eD, pd⟩
    rw [lxa] at pd
    have mm := (tat_mem pd).2
    refine ⟨D, rfl, acc, kT Hz, SqL.of eD, fun x hx => (mm x hx).elim fun p z => ⟨p, z.1, by rw [z.2.2]; exact z.2.1, by rw [z.2.2]; rfl⟩, fun ys2 p2 sr pm np2 => ?_⟩
    obtain ⟨L, tL, pL, oL⟩ := sorted_trips pd sr pm
    have sp := same_new np2 (o := .lst ys2)
    have sB := (s1.trans sz).trans sp
    have e2 : (upd Hz p2 (.lst (if false = true then ys2.reverse else ys2))) p2 = some (.lst ys2) := upd_same
    have ec2 := sp _ _ (sz _ _ ec)
    have tL2 := tL.same sp
    have np20 : H p2 = none := (s1.trans sz).free np2
    have n2c : p2 ≠ c := fun z => by rw [z, sz _ _ ec] at np2; cases np2
    show _
    have sp : Same Hz (upd Hz p2 (.lst (if false = true then ys2.reverse else ys2))) := sp
    have sB : Same H (upd Hz p2 (.lst (if false = true then ys2.reverse else ys2))) := sB
    have ec2 : (upd Hz p2 (.lst (if false = true then ys2.reverse else ys2))) c = some (.lst (res [] rs.length)) := ec2
    have tL2 : TAt (upd Hz p2 (.lst (if false = true then ys2.reverse else ys2))) ys2 (L.map (k3 rs)) := tL2
    generalize upd Hz p2 (.lst (if false = true then ys2.reverse else ys2)) = H2 at sB e2 ec2 tL2 ⊢
    clear sp tL np2 mm eD pd sz sr pm ec s1 nD
    refine ⟨.ref b, rfl, b, ys, rfl, hB.same sB, fun J G wk hG D nD => ?_⟩
    refine lc_it wk (fun i Hz => Same H2 Hz ∧ ∃ acc : List V, Hz D = some (.lst acc) ∧ TAt Hz acc ((List.range i).map (k3 ss))) ⟨same_new nD, [], upd_same, trivial⟩ (fun i Hz _ z => hG _ z.1) ?_ ?_
    · rintro i v Hz Hy hi ⟨sz, acc, eD, pd⟩ ⟨T, x, y, rfl, nT, rfl, hx, hy⟩
      obtain rfl : V.int (i : Int) = x := Option.some.inj hx
      obtain ⟨r, p, er, rfl, e2⟩ := pr_at pb hy
      have ea : at0 ss i = r := by unfold at0; rw [er]; rfl
      have sT := same_new (o := .tup [.int (i : Int), .ref p]) nT
      have s3 := sz.trans sT
      have hp := s3 _ _ (sB _ _ e2)
      have la2 := pd.length
      rw [List.length_map, List.length_range] at la2
      refine ⟨T, _, rfl, SqT.of upd_same, rfl, .int (i : Int), [.ref p], rfl, .ref p, [], rfl, p, _, rfl, SqT.of hp, rfl, .int r.1, [.int r.2], rfl, .int r.2, [], rfl, rfl, rfl, rfl, iteT (B := True) ?_⟩
      refine ⟨.int r.1, rfl, .int r.2, rfl, .int (i : Int), rfl, (show 3 ≤ sizeLine by decide), fun q nq => ?_⟩
      have sq := same_new (o := .tup [.int r.1, .int r.2, .int (i : Int)]) nq
      have eD2 := sq _ _ (sT _ _ eD)
      refine ⟨acc, eD2, Nat.lt_of_le_of_lt (show acc.length ≤ 3000 by omega) (by decide), same_again nD (s3.trans sq), acc ++ [.ref q], upd_same, ?_⟩
      rw [List.range_succ, List.map_append]
      exact tat_upd eD2 (TAt.append (pd.same (sT.trans sq)) ⟨⟨q, rfl, by rw [show k3 ss i = [r.1, r.2, (i : Int)] by unfold k3; rw [ea]]; exact upd_same⟩, trivial⟩)
    rintro Hz ⟨sz, acc, eD, pd⟩
    rw [lxb] at pd
    have mm := (tat_mem pd).2
    refine ⟨D, rfl, rfl, acc, kT Hz, SqL.of eD, fun x hx => (mm x hx).elim fun p z => ⟨p, z.1, by rw [z.2.2]; exact z.2.1, by rw [z.2.2]; rfl⟩, fun ys3 p3 sr pm np3 => ?_⟩
    obtain ⟨O0, tO, pO, oO⟩ := sorted_trips pd sr pm
    have sp : Same Hz (upd Hz p3 (.lst (if true = true then ys3.reverse else ys3))) := same_new np3
    have e3 : (upd Hz p3 (.lst (if true = true then ys3.reverse else ys3))) p3 = some (.lst ys3.reverse) := upd_same
    have sC := (sB.trans sz).trans sp
    have e2' := sp _ _ (sz _ _ e2)
    have ec' := sp _ _ (sz _ _ ec2)
    have tL' := (tL2.same sz).same sp
    have tO' := tO.same sp
    have np30 : H p3 = none := (sB.trans sz).free np3
    have n3c : p3 ≠ c := fun z => by rw [z, sz _ _ ec2] at np3; cases np3
    have n32 : p3 ≠ p2 := fun z => by rw [z, sz _ _ e2] at np3; cases np3
    generalize upd Hz p3 (.lst (if true = true then ys3.reverse else ys3)) = H3 at sC e3 e2' ec' tL' tO' ⊢
    refine ⟨Nat.zero_le _, fun fa nfa => ?_⟩
    have sf := same_new nfa (o := .lst [])
    have ef := upd_same (H := H3) (a := fa) (o := .lst [])
    have sD := sC.trans sf
    have e2'' := sf _ _ e2'
    have e3'' := sf _ _ e3
    have ec'' := sf _ _ ec'
    have tL'' := tL'.same sf
    have tO'' := tO'.same sf
    have nf0 : H fa = none := sC.free nfa
    have nfc : fa ≠ c := fun z => by rw [z, ec'] at nfa; cases nfa
    have nf2 : fa ≠ p2 := fun z => by rw [z, e2'] at nfa; cases nfa
    have nf3 : fa ≠ p3 := fun z => by rw [z, e3] at nfa; cases nfa
    generalize upd H3 fa (.lst []) = H4 at sD e2'' e3'' ec'' tL'' tO'' ef ⊢
    obtain ⟨fr0, pf0, sf0⟩ := fr_ex ss
    have nd0 : fr0.Nodup := pf0.nodup_iff.mpr List.nodup_range
    have lO : O0.length = ss.length := by rw [pO.length_eq, List.length_range]
    have lL : L.length = rs.length := by rw [pL.length_eq, List.length_range]
    have lfr : fr0.length = ss.length := by rw [pf0.length_eq, List.length_range]
    have f0 : fr0.filter (keep O0) = [] := List.filter_eq_nil_iff.mpr fun q hq z => (keep_iff.mp z) (pO.mem_iff.mpr (pf0.mem_iff.mp hq))
    refine ⟨.ref p2, rfl, p2, rfl, ⟨ys2, SqL.of e2''⟩, for_it (walk_list (xs := ys2)) (fun i σ Hz => ∃ (pre : List (Nat × Option Nat)) (fr O : List Nat) (zs fs : List V), Lp H p2 p3 c fa ys2 rs ss L fr0 i Hz pre fr O zs fs ∧ ∃ r3 r4 r5 r7 r10 r11 r12 : Option V, σ = [some (.ref a), some (.ref b), some (.ref c), r3, r4, r5, some (.ref p2), r7, some (.ref p3), some (.ref fa), r10, r11, r12])
      ⟨[], fr0, O0, ys3, [], ⟨sD, e2'', tL'', ec'', rfl, rfl, e3'', tO'', ef, by rw [f0]; trivial, nd0, sf0, fun q hq => pf0.mem_iff.mpr (pO.mem_iff.mp hq), pO.nodup_iff.mpr List.nodup_range, oO, fun q hq hn => absurd (pO.mem_iff.mpr (pf0.mem_iff.mp hq)) hn, by omega⟩, _, _, _, _, _, _, _, rfl⟩ (fun i σ Hz _ z => by obtain ⟨_, _, _, _, _, g, _⟩ := z; exact SqL.of g.e2) ?_ ?_⟩
    · rintro i x σ Hz Hy hi ⟨pre, fr, O, zs, fs, g, r3, r4, r5, r7, r10, r11, r12, rfl⟩ ⟨rfl, hx⟩
      obtain ⟨l, p, el, rfl, ep⟩ := g.t2.at hx
      rw [List.getElem?_map] at el
      obtain ⟨at', ea, rfl⟩ := Option.map_eq_some_iff.mp el
      have ndL : L.Nodup := pL.nodup_iff.mpr List.nodup_range
      have han : at' < rs.length := List.mem_range.mp (pL.mem_iff.mp (List.mem_of_getElem? ea))
      have hat : at' ∈ L.drop i := by
        obtain ⟨h1, h2⟩ := List.getElem?_eq_some_iff.mp ea
        rw [List.drop_eq_getElem_cons h1, h2]
        exact List.mem_cons_self
      have hlater : ∀ b ∈ L.drop i, (at0 rs at').1 ≤ (at0 rs b).1 := fun b hb => by
        obtain ⟨h1, h2⟩ := List.getElem?_eq_some_iff.mp ea
        have sub := oL.sublist (List.drop_sublist i L)
        rw [List.drop_eq_getElem_cons h1, h2] at hb sub
        rcases List.mem_cons.mp hb with z | z
        · rw [z]; exact Int.le_refl _
        · exact ord_low ((List.pairwise_cons.mp sub).1 b z)
      refine ⟨p, _, rfl, SqT.of ep, rfl, .int (at0 rs at').1, _, rfl, .int (at0 rs at').2, _, rfl, .int (at' : Int), _, rfl, rfl, ?_⟩
      refine ⟨fun n σ Hw => ∃ (O : List Nat) (zs fs : List V), n = O.length ∧ Lp H p2 p3 c fa ys2 rs ss L fr0 i Hw pre fr O zs fs ∧ ∃ r7 r10 r11 r12 : Option V, σ = [some (.ref a), some (.ref b), some (.ref c), some (.int (at' : Int)), some (.int (at0 rs at').1), some (.int (at0 rs at').2), some (.ref p2), r7, some (.ref p3), some (.ref fa), r10, r11, r12], ⟨_, O, zs, fs, rfl, g, _, _, _, _, rfl⟩, ?_⟩
      clear g ep hx el
      rintro n σ Hw ⟨O, zs, fs, rfl, g, r7, r10, r11, r12, rfl⟩
      refine ⟨.ref p3, rfl, _, .inl ⟨_, SqL.of g.e3, rfl⟩, ?_⟩
      cases zs with
      | nil =>
        have hO0 : O = [] := by
          have := g.t3.length
          rw [List.length_map] at this
          exact List.length_eq_zero_iff.mp this.symm
        have hO : ∀ q ∈ O, (at0 rs at').1 < (at0 ss q).1 := fun q m => by rw [hO0] at m; exact (List.not_mem_nil m).elim
        refine iteF ?_
        refine iteF ?_
        refine ⟨.ref fa, rfl, .int (at0 rs at').2, rfl, l2s, fun v nv => ?_⟩
        have sv := same_new nv (o := .tup [.int (at0 rs at').2, .int 0])
        refine ⟨fa, v, fs, _, ((at0 rs at').2, 0), rfl, sv _ _ g.ef, g.pr.same sv, g.srt.sublist (List.Sublist.map _ List.filter_sublist), upd_same, by rw [List.length_map]; exact Nat.le_trans (List.length_filter_le _ _) (Nat.le_trans g.len (by decide)), fun j pl => ?_⟩
        have gv := g.same sv
        generalize upd Hw v (.tup [.int (at0 rs at').2, .int 0]) = Hv at gv ⊢
        have lf := gv.pr.length
        obtain ⟨F1, F2⟩ := K55d.found (f := at0 rs) (s := at0 ss) (a := at') (i := j) gv.nd hO (fun q m n => gv.low q m n at' hat) pl
        refine ⟨.int j, rfl, .ref fa, rfl, fa, fs, rfl, .inl (SqL.of gv.ef), (j : Int), (fs.length : Int), rfl, rfl, _, rfl, ?_⟩
        by_cases hj : j < fs.length
        · rw [decide_eq_true (show (j : Int) < (fs.length : Int) by omega)]
          obtain ⟨p', m1, m2, e1, fd', er⟩ := F1 (by rw [← lf]; exact hj)
          obtain ⟨tv, e5, e6⟩ := BO.pair_get gv.pr e1
          have hn : tv ≠ fa := fun z => by rw [z, gv.ef] at e6; cases e6
          have lfs : fs.length ≤ 500 := by rw [lf, List.length_map]; exact Nat.le_trans (List.length_filter_le _ _) gv.len
          refine iteT ⟨.ref fa, rfl, .inl ⟨rfl, _, SqL.of gv.ef⟩, .int j, rfl, fa, fs, (j : Int), j, .ref tv, rfl, rfl, gv.ef, by omega, by omega, sIx hj, e5, ?_⟩
          refine ⟨tv, _, rfl, SqT.of (by rw [upd_ne hn]; exact e6), rfl, .int (at0 ss p').2, _, rfl, .int (p' : Int), _, rfl, .ref c, rfl, .int (at' : Int), rfl, c, res pre rs.length, (at' : Int), at', rfl, rfl, by rw [upd_ne nfc.symm]; exact gv.ec, ?_, rfl, ?_⟩
          · rw [res_len]
            unfold ixN
            rw [if_pos (by omega), if_pos (by omega)]
            rfl
          · exact ⟨pre ++ [(at', some p')], fr.erase p', _, _, fs.eraseIdx j, gv.yes ea ndL han fd' m1 m2 er nf0 nc0 nfc nf2 nf3 n2c n3c, _, _, _, _, _, _, _, rfl⟩
        · rw [decide_eq_false (show ¬ (j : Int) < (fs.length : Int) by omega)]
          exact iteF ⟨pre ++ [(at', none)], fr, _, _, fs, gv.no ea ndL (F2 (by rw [← lf]; exact hj)), _, _, _, _, _, _, _, rfl⟩
      | cons z zs =>
        cases O with
        | nil => exact g.t3.elim
        | cons q O =>
        obtain ⟨⟨t, rfl, ht⟩, t3'⟩ := g.t3
        have nem : (!((V.ref t :: zs).reverse).isEmpty) = true := by rw [List.reverse_cons]; cases zs.reverse <;> rfl
        rw [nem]
        refine iteT ⟨.ref p3, rfl, 1, rfl, p3, _, _, .ref t, rfl, rfl, SqL.of g.e3, by rw [List.reverse_cons]; exact atI_last _ _, t, _, 0, .int (at0 ss q).1, rfl, rfl, SqT.of ht, rfl, .int (at0 rs at').1, rfl, (at0 ss q).1, (at0 rs at').1, rfl, rfl, _, rfl, ?_⟩
        by_cases hlow : (at0 ss q).1 ≤ (at0 rs at').1
        · rw [decide_eq_true hlow]
          refine iteT ⟨fun σ Hw => ∃ m', m' < (q :: O).length ∧ ∃ (O : List Nat) (zs fs : List V), m' = O.length ∧ Lp H p2 p3 c fa ys2 rs ss L fr0 i Hw pre fr O zs fs ∧ ∃ r7 r10 r11 r12 : Option V, σ = [some (.ref a), some (.ref b), some (.ref c), some (.int (at' : Int)), some (.int (at0 rs at').1), some (.int (at0 rs at').2), some (.ref p2), r7, some (.ref p3), some (.ref fa), r10, r11, r12], fun _ _ z => z, ?_⟩
          have n3t : t ≠ p3 := fun z => by rw [z, g.e3] at ht; cases ht
          refine ⟨.ref p3, rfl, .inl ⟨rfl, _, SqL.of g.e3⟩, p3, _, .ref t, rfl, rfl, g.e3, by rw [List.reverse_cons, List.length_append, List.length_singleton, Nat.add_sub_cancel, List.getElem?_append_right (Nat.le_refl _), Nat.sub_self]; rfl, ?_⟩
          rw [show (V.ref t :: zs).reverse.dropLast = zs.reverse by rw [List.reverse_cons, List.dropLast_concat]]
          refine ⟨t, _, rfl, SqT.of (by rw [upd_ne n3t]; exact ht), rfl, .int (at0 ss q).1, _, rfl, .int (at0 ss q).2, _, rfl, .int (q : Int), _, rfl, rfl, ?_⟩
          refine ⟨.ref fa, rfl, .int (at0 ss q).2, rfl, .int (q : Int), rfl, l2s, fun v nv => ?_⟩
          have sv := same_new nv (o := .tup [.int (at0 ss q).2, .int (q : Int)])
          refine ⟨fa, v, fs, _, ((at0 ss q).2, (q : Int)), rfl, sv _ _ (by rw [upd_ne nf3]; exact g.ef), (pairs_upd g.e3 g.pr).same sv, g.srt.sublist (List.Sublist.map _ List.filter_sublist), upd_same, by rw [List.length_map]; exact Nat.le_trans (List.length_filter_le _ _) (Nat.le_trans g.len (by decide)), fun fs' rs' hp pm st => ?_⟩
          exact ⟨O.length, Nat.lt_succ_self _, O, zs, fs', rfl, g.pop (fun b hb => Int.le_trans hlow (hlater b hb)) nv hp pm st nf0 np30 nfc nf2 nf3 n3c n32, _, _, _, _, rfl⟩
        · have hO : ∀ x ∈ q :: O, (at0 rs at').1 < (at0 ss x).1 := fun x m => by
            rcases List.mem_cons.mp m with z | z
            · rw [z]; omega
            · have := ord_low ((List.pairwise_cons.mp g.osr).1 x z)
              omega
          rw [decide_eq_false hlow]
          refine iteF ?_
          refine ⟨.ref fa, rfl, .int (at0 rs at').2, rfl, l2s, fun v nv => ?_⟩
          have sv := same_new nv (o := .tup [.int (at0 rs at').2, .int 0])
          refine ⟨fa, v, fs, _, ((at0 rs at').2, 0), rfl, sv _ _ g.ef, g.pr.same sv, g.srt.sublist (List.Sublist.map _ List.filter_sublist), upd_same, by rw [List.length_map]; exact Nat.le_trans (List.length_filter_le _ _) (Nat.le_trans g.len (by decide)), fun j pl => ?_⟩
          have gv := g.same sv
          generalize upd Hw v (.tup [.int (at0 rs at').2, .int 0]) = Hv at gv ⊢
          have lf := gv.pr.length
          obtain ⟨F1, F2⟩ := K55d.found (f := at0 rs) (s := at0 ss) (a := at') (i := j) gv.nd hO (fun q m n => gv.low q m n at' hat) pl
          refine ⟨.int j, rfl, .ref fa, rfl, fa, fs, rfl, .inl (SqL.of gv.ef), (j : Int), (fs.length : Int), rfl, rfl, _, rfl, ?_⟩
          by_cases hj : j < fs.length
          · rw [decide_eq_true (show (j : Int) < (fs.length : Int) by omega)]
            obtain ⟨p', m1, m2, e1, fd', er⟩ := F1 (by rw [← lf]; exact hj)
            obtain ⟨tv, e5, e6⟩ := BO.pair_get gv.pr e1
            have hn : tv ≠ fa := fun z => by rw [z, gv.ef] at e6; cases e6
            have lfs : fs.length ≤ 500 := by rw [lf, List.length_map]; exact Nat.le_trans (List.length_filter_le _ _) gv.len
            refine iteT ⟨.ref fa, rfl, .inl ⟨rfl, _, SqL.of gv.ef⟩, .int j, rfl, fa, fs, (j : Int), j, .ref tv, rfl, rfl, gv.ef, by omega, by omega, sIx hj, e5, ?_⟩
            refine ⟨tv, _, rfl, SqT.of (by rw [upd_ne hn]; exact e6), rfl, .int (at0 ss p').2, _, rfl, .int (p' : Int), _, rfl, .ref c, rfl, .int (at' : Int), rfl, c, res pre rs.length, (at' : Int), at', rfl, rfl, by rw [upd_ne nfc.symm]; exact gv.ec, ?_, rfl, ?_⟩
            · rw [res_len]
              unfold ixN
              rw [if_pos (by omega), if_pos (by omega)]
              rfl
            · exact ⟨pre ++ [(at', some p')], fr.erase p', _, _, fs.eraseIdx j, gv.yes ea ndL han fd' m1 m2 er nf0 nc0 nfc nf2 nf3 n2c n3c, _, _, _, _, _, _, _, rfl⟩
          · rw [decide_eq_false (show ¬ (j : Int) < (fs.length : Int) by omega)]
            exact iteF ⟨pre ++ [(at', none)], fr, _, _, fs, gv.no ea ndL (F2 (by rw [← lf]; exact hj)), _, _, _, _, _, _, _, rfl⟩
    · rintro σ Hz ⟨pre, fr, O, zs, fs, g, r3, r4, r5, r7, r10, r11, r12, rfl⟩
      have hl := g.t2.length
      rw [List.length_map] at hl
      have hg := g.go
      rw [hl, List.drop_length] at hg
      have hg : go (at0 rs) (at0 ss) L fr0 = pre := by rw [hg]; exact List.append_nil _
      refine ⟨.ref c, rfl, hq Hz c L fr0 g.sm nc0 (by rw [hg]; exact g.ec) pL oL pf0 sf0⟩
end
end P5P

/-! zip of a list and a tuple -/
namespace GZ
open PySem PySem.Spec PyProof.Rows L2
/-- the list at a, the tuple at b, the items in new pairs -/
def ItzM (K : PySem.W.Frag) (a b : Addr) : It :=
  ⟨fun i H => ∃ (xs ys : List V) (x y : V), SqL K H a xs ∧ SqT K H b ys ∧ xs[i]? = some x ∧ ys[i]? = some y,
    fun i H v H' => ∃ T x y, v = .ref T ∧ H T = none ∧ H' = upd H T (.tup [x, y]) ∧ (∀ xs, SqL K H a xs → xs[i]? = some x) ∧ ∀ ys, SqT K H b ys → ys[i]? = some y,
    fun i H => ∃ xs ys : List V, SqL K H a xs ∧ SqT K H b ys ∧ (xs.length = i ∨ ys.length = i) ∧ i ≤ xs.length ∧ i ≤ ys.length⟩
theorem sep {z TI TO i1 i2 a b : Addr} (D : ZipApart z TI TO i1 i2 a b) : ZipSep2 z TI TO i1 i2 [i1, a] [i2, b] :=
  { TIz := D.TIz, TOz := D.TOz, TITO := D.TITO, TIi1 := D.TIi1, mem1 := by simp, zf1 := by simp [D.i1z.symm, D.l1z.symm], Tf1 := by simp [D.l1TO.symm, D.TOi1], TIi2 := D.TIi2, mem2 := by simp, zf2 := by simp [D.i2z.symm, D.l2z.symm], Tf2 := by simp [D.l2TO.symm, D.TOi2], sep1_2 := by simp [D.i12, D.l2i1.symm], sep2_1 := by simp [D.i12.symm, D.l1i2.symm] }
theorem turn_zipM {P : Program} {w : World} {K : PySem.W.Frag} {elts : List Expr} {kk : Nat} {tpos : Pos} {a b z TI TO i1 i2 : Addr} (D : ZipApart z TI TO i1 i2 a b) :
    Turn P w K (.Tuple elts kk tpos) (ItzM K a b) [z, TI, TO, i1, i2] z (fun i h => IsZip h z TI TO .none ∧ IsTupOf2 h TI (.ref i1) (.ref i2) ∧ (∃ x y, IsTupOf2 h TO x y) ∧ h.IsListIter i1 a i ∧ h.IsTupleIter i2 b i) where
  mem := by simp
  obj := fun i h st c hc => by
    obtain ⟨hz, hTI, ⟨x, y, hTO⟩, ⟨o1, e1, _, d1⟩, ⟨o2, e2, _, d2⟩⟩ := st
    have e' : c = z ∨ c = TI ∨ c = TO ∨ c = i1 ∨ c = i2 := by simpa using hc
    rcases e' with q | q | q | q | q
    · rw [q]; exact ⟨_, hz, fun v q => nomatch q⟩
    · rw [q]; exact ⟨_, hTI, fun v q => nomatch q⟩
    · rw [q]; exact ⟨_, hTO, fun v q => nomatch q⟩
    · rw [q]; exact ⟨o1, e1, fun v q => by rw [d1] at q; cases q⟩
    · rw [q]; exact ⟨o2, e2, fun v q => by rw [d2] at q; cases q⟩
  keep := fun i h h' st k => by
    obtain ⟨hz, hTI, ⟨x, y, hTO⟩, h1, h2⟩ := st
    exact ⟨k z (by simp) _ hz, k TI (by simp) _ hTI, ⟨x, y, k TO (by simp) _ hTO⟩, h1.at fun o q => k i1 (by simp) o q, h2.at fun o q => k i2 (by simp) o q⟩
  item := by
    intro X hP hw hK hc i pins s σ H E I hf st hg
    subst hP hw hK
    obtain ⟨hz, hTI, ⟨x0, y0, hTO⟩, h1, h2⟩ := st
    obtain ⟨xs, ys, x, y, hqx, hqy, hx, hy⟩ := hg
    obtain ⟨its, rv, p, _⟩ := I.list hqx
    obtain ⟨its2, rv2, p2, _⟩ := I.tuple hqy
    obtain ⟨u, hu, ru⟩ := rv.get hx
    obtain ⟨u2, hu2, ru2⟩ := rv2.get hy
    have p2' : s.heap.IsTuple b its2.toArray := p2
    have hzl : z < s.heap.objs.size := Heap.lt_size hz
    have lt1 : i < its.toArray.size := by have := (List.getElem?_eq_some_iff.mp hu).1; simpa using this
    have lt2 : i < its2.toArray.size := by have := (List.getElem?_eq_some_iff.mp hu2).1; simpa using this
    refine wpAny_pyNext_zipD2_item (sep D) (Draws.list (prog := X.prog) (w := X.w) (A := X.A.in1) (I.ok.hd hc) i1 a D.l1i1 its.toArray) (Draws.tuple (prog := X.prog) (w := X.w) (A := X.A.in1) (I.ok.hd hc) i2 b D.l2i2 its2.toArray) hz hTI hTO ⟨h1, p.isList⟩ ⟨h2, p2'⟩ lt1 lt2
      fun v1 v2 h' tk q1 q2 z' TO' st1' st2' hT hsz hk => ?_
    have ex : v1 = u := by
      have px2 : its[i]? = some v1 := by simpa using q1
      rw [hu] at px2
      exact (Option.some.inj px2).symm
    have ey : v2 = u2 := by
      have px2 : its2[i]? = some v2 := by simpa using q2
      rw [hu2] at px2
      exact (Option.some.inj px2).symm
    subst ex ey
    refine ⟨_, rfl, wpAny_letOwnedTupleGo_zip (s := { s with heap := h', toks := tk }) z' fun h'' z'' sb => ?_⟩
    have hT2 : h''.get? s.heap.objs.size = some { cls := .type "tuple", data := .seq #[v1, v2] } := (sb.2 _ (Nat.ne_of_gt hzl)).trans hT
    have new : ObjOk X.prog X.w (upd H s.heap.objs.size (.tup [x, y])) h'' s.heap.objs.size (.tup [x, y]) :=
      ⟨by show 2 ≤ sizeLine; decide, [v1, v2], .cons ru (.cons ru2 .nil), ⟨_, hT2, rfl, _, rfl⟩⟩
    have I1 : Inv X pins σ (upd H s.heap.objs.size (.tup [x, y])) { s with heap := h'', toks := tk } :=
      I.turnedNew (ch := [z, TI, TO, i1, i2]) (fun c o hb q => (sb.2 c (fun q' => hb (by simp [q']))).trans (hk c o (fun q' => hb (by simp [q'])) (fun q' => hb (by simp [q'])) (fun q' => hb (by simp [q'])) (fun q' => hb (by simp [q'])) q)) hf (Nat.le_refl _) new
    refine ⟨.ref s.heap.objs.size, _, I1, rfl, ⟨_, x, y, rfl, I.hok.fresh (Nat.le_refl _), rfl, fun l hl => by rw [I.list_inj hl hqx]; exact hx, fun l hl => by rw [I.tuple_inj hl hqy]; exact hy⟩, ⟨z'', ?_, ⟨v1, v2, ?_⟩, ?_, ?_⟩, fun c hcm => ?_⟩
    · exact (sb.2 _ D.TIz).trans (hk _ _ D.TIz D.TITO D.TIi1 D.TIi2 hTI)
    · exact (sb.2 _ D.TOz).trans TO'
    · exact st1'.1.at fun o q => (sb.2 _ D.i1z).trans q
    · exact st2'.1.at fun o q => (sb.2 _ D.i2z).trans q
    · have hlt : c < s.heap.objs.size := by
        have e' : c = z ∨ c = TI ∨ c = TO ∨ c = i1 ∨ c = i2 := by simpa using hcm
        rcases e' with q | q | q | q | q
        · rw [q]; exact hzl
        · rw [q]; exact Heap.lt_size hTI
        · rw [q]; exact Heap.lt_size hTO
        · rw [q]; obtain ⟨_, e1, _⟩ := h1; exact Heap.lt_size e1
        · rw [q]; obtain ⟨_, e2, _⟩ := h2; exact Heap.lt_size e2
      rw [upd_ne (Nat.ne_of_lt hlt)]
      exact (hf c hcm).1
  done := by
    intro X hP hw hK hc i pins s σ H E I hf st hg
    subst hP hw hK
    obtain ⟨hz, hTI, ⟨x0, y0, hTO⟩, h1, h2⟩ := st
    obtain ⟨xs, ys, hqx, hqy, hend, hl1, hl2⟩ := hg
    obtain ⟨its, rv, p, _⟩ := I.list hqx
    obtain ⟨its2, rv2, p2, _⟩ := I.tuple hqy
    have p2' : s.heap.IsTuple b its2.toArray := p2
    have l1 := rv.length
    have l2 := rv2.length
    refine wpAny_pyNext_zipD2_end (sep D) (Draws.list (prog := X.prog) (w := X.w) (A := X.A.in1) (I.ok.hd hc) i1 a D.l1i1 its.toArray) (Draws.tuple (prog := X.prog) (w := X.w) (A := X.A.in1) (I.ok.hd hc) i2 b D.l2i2 its2.toArray) hz hTI hTO ⟨h1, p.isList⟩ ⟨h2, p2'⟩ (by simp; omega) (by simp; omega) (by simp; omega)
      fun h' tk hk => ⟨rfl, I.turnedL (t' := tk) (ch := [z, TI, TO, i1, i2]) (fun c o hb q => hk c o (fun q' => hb (by simp [q'])) (fun q' => hb (by simp [q'])) (fun q' => hb (by simp [q'])) (fun q' => hb (by simp [q'])) q) hf⟩
  self := fun A i s Q E st h => wpAny_pyIter_zip st.1 h
def iZipM (K : PySem.W.Frag) (ta : TA) : TI := fun σ H R => ta σ H fun vs H1 => ∃ a b xs ys, vs = [.ref a, .ref b] ∧ SqL K H1 a xs ∧ SqT K H1 b ys ∧ R (ItzM K a b) H1
theorem pi_zipM {X : Cx} {e e2 : Expr} {ta : TA} {p pos tpos : Pos} {elts : List Expr} {kk : Nat} (hg : Gl X "zip") (hm : X.mg "zip" = none) (ha : PA X [e, e2] ta)
    (hs : starEach [e, e2] X.env = (false, eval e X.env) :: starEach [e2] X.env := by rfl) (hpl : (backTo pos (starEach [e2] X.env)).any (·.1) = false := by rfl) :
    PI X (.Tuple elts kk tpos) (.Call (.Name "zip" p) [e, e2] [] pos) (iZipM X.K ta) := by
  refine ⟨fun pins s σ H R I h => ?_⟩
  refine Call_ (ld_blt I hg hm PyProof.Rows.boot_zip (PyProof.Rows.callWith_type1 (thn (ha.run pos pins s σ H _ I h) fun us s1 ⟨vs, H1, I1, r1, q1⟩ => ?_) hs hpl))
  obtain ⟨a, b, xs, ys, ex, hqx, hqy, q⟩ := q1
  subst ex
  cases r1 with
  | cons r rr =>
    cases rr with
    | cons r' rr =>
      cases rr
      cases r
      cases r'
      obtain ⟨its, rv, p1, _⟩ := I1.list hqx
      obtain ⟨its2, rv2, p2, _⟩ := I1.tuple hqy
      have p2' : s1.heap.IsTuple b its2.toArray := p2
      have la : a < s1.heap.objs.size := p1.lt
      have lb : b < s1.heap.objs.size := by obtain ⟨_, e, _⟩ := p2'; exact Heap.lt_size e
      refine zip_begins2 (begins_list a its.toArray) (begins_tuple b its2.toArray) p1.isList p2' fun h' hz hTI hTO h1 h2 hsz hk => wpAny_pyIter_zip hz ?_
      have I2 : Inv X pins σ H1 { s1 with heap := h' } := I1.kept (t' := s1.toks) hk
      refine ⟨s1.heap.objs.size + 4, [s1.heap.objs.size + 4, s1.heap.objs.size + 2, s1.heap.objs.size + 3, s1.heap.objs.size, s1.heap.objs.size + 1], _, _, H1, rfl, I2, turn_zipM (PySem.W.ktu_apart s1.heap.objs.size a b la lb), ⟨hz, hTI, ⟨_, _, hTO⟩, ⟨_, h1, rfl, rfl⟩, ⟨_, h2, rfl, rfl⟩⟩, fun c hcm => ?_, q⟩
      have e' : c = s1.heap.objs.size + 4 ∨ c = s1.heap.objs.size + 2 ∨ c = s1.heap.objs.size + 3 ∨ c = s1.heap.objs.size ∨ c = s1.heap.objs.size + 1 := by simpa using hcm
      have hle : s1.heap.objs.size ≤ c := by
        rcases e' with z | z | z | z | z <;> rw [z] <;> first | exact Nat.le_refl _ | exact Nat.le_add_right _ _
      exact I1.fpOk hle (I1.hok.fresh hle)
theorem walk_zipM {K : PySem.W.Frag} {a b : Addr} {xs ys : List V} {n : Nat} (hn : n = min xs.length ys.length) : Walk (ItzM K a b) n (fun H => SqL K H a xs ∧ SqT K H b ys) (YPair (fun i => xs[i]?) (fun i => ys[i]?)) := by
  refine ⟨fun i H hi q => ⟨xs, ys, xs[i]'(by omega), ys[i]'(by omega), q.1, q.2, List.getElem?_eq_getElem (by omega), List.getElem?_eq_getElem (by omega)⟩, fun H q => ⟨xs, ys, q.1, q.2, by omega, by omega, by omega⟩, fun i H v H' _ q y => ?_⟩
  obtain ⟨T, x, z, h1, h2, h3, h4, h5⟩ := y
  exact ⟨T, x, z, h1, h2, h3, h4 xs q.1, h5 ys q.2⟩
/-- zip of a list and a list or a tuple: a walk over both, by what it gives -/
def iZipS (K : PySem.W.Frag) (ta : TA) : TI := fun σ H R => ta σ H fun vs H1 => ∃ a b xs ys, vs = [.ref a, .ref b] ∧ SqL K H1 a xs ∧ PH.Sq K H1 b ys ∧
  ∀ (J : It) (G : Hp → Prop), Walk J (min xs.length ys.length) G (YPair (fun i => xs[i]?) (fun i => ys[i]?)) → (∀ H', L2.Same H1 H' → G H') → R J H1
theorem pi_zipS {X : Cx} {e e2 : Expr} {ta : TA} {p pos tpos : Pos} {elts : List Expr} {kk : Nat} (hg : Gl X "zip") (hm : X.mg "zip" = none) (ha : PA X [e, e2] ta)
    (hs : starEach [e, e2] X.env = (false, eval e X.env) :: starEach [e2] X.env := by rfl) (hpl : (backTo pos (starEach [e2] X.env)).any (·.1) = false := by rfl) :
    PI X (.Tuple elts kk tpos) (.Call (.Name "zip" p) [e, e2] [] pos) (iZipS X.K ta) := by
  refine ⟨fun pins s σ H R I h => ?_⟩
  refine Call_ (ld_blt I hg hm PyProof.Rows.boot_zip (PyProof.Rows.callWith_type1 (thn (ha.run pos pins s σ H _ I h) fun us s1 ⟨vs, H1, I1, r1, q1⟩ => ?_) hs hpl))
  obtain ⟨a, b, xs, ys, ex, hqx, hqy, q⟩ := q1
  subst ex
  have top : ∀ c, c ∈ [s1.heap.objs.size + 4, s1.heap.objs.size + 2, s1.heap.objs.size + 3, s1.heap.objs.size, s1.heap.objs.size + 1] → s1.heap.objs.size ≤ c := fun c hcm => by
    have e' : c = s1.heap.objs.size + 4 ∨ c = s1.heap.objs.size + 2 ∨ c = s1.heap.objs.size + 3 ∨ c = s1.heap.objs.size ∨ c = s1.heap.objs.size + 1 := by simpa using hcm
    rcases e' with z | z | z | z | z <;> rw [z] <;> first | exact Nat.le_refl _ | exact Nat.le_add_right _ _
  cases r1 with
  | cons r rr =>
    cases rr with
    | cons r' rr =>
      cases rr
      cases r
      cases r'
      obtain ⟨its, rv, p1, _⟩ := I1.list hqx
      have la : a < s1.heap.objs.size := p1.lt
      rcases hqy with hqy | hqy
      · obtain ⟨its2, rv2, p2, _⟩ := I1.list hqy
        have lb : b < s1.heap.objs.size := p2.lt
        refine call_zip_2 p1.isList p2.isList fun h' hz hTI hTO h1 h2 hsz hk => wpAny_pyIter_zip hz ?_
        have I2 : Inv X pins σ H1 { s1 with heap := h' } := I1.kept (t' := s1.toks) hk
        exact ⟨s1.heap.objs.size + 4, [s1.heap.objs.size + 4, s1.heap.objs.size + 2, s1.heap.objs.size + 3, s1.heap.objs.size, s1.heap.objs.size + 1], _, _, H1, rfl, I2, turn_zip (PySem.W.ktu_apart s1.heap.objs.size a b la lb), ⟨hz, hTI, ⟨_, _, hTO⟩, h1, h2⟩, fun c hcm => I1.fpOk (top c hcm) (I1.hok.fresh (top c hcm)), q _ _ (walk_zip rfl) fun H' s => ⟨s.seq hqx, s.seq hqy⟩⟩
      · obtain ⟨its2, rv2, p2, _⟩ := I1.tuple hqy
        have p2' : s1.heap.IsTuple b its2.toArray := p2
        have lb : b < s1.heap.objs.size := by obtain ⟨_, e, _⟩ := p2'; exact Heap.lt_size e
        refine zip_begins2 (begins_list a its.toArray) (begins_tuple b its2.toArray) p1.isList p2' fun h' hz hTI hTO h1 h2 hsz hk => wpAny_pyIter_zip hz ?_
        have I2 : Inv X pins σ H1 { s1 with heap := h' } := I1.kept (t' := s1.toks) hk
        exact ⟨s1.heap.objs.size + 4, [s1.heap.objs.size + 4, s1.heap.objs.size + 2, s1.heap.objs.size + 3, s1.heap.objs.size, s1.heap.objs.size + 1], _, _, H1, rfl, I2, turn_zipM (PySem.W.ktu_apart s1.heap.objs.size a b la lb), ⟨hz, hTI, ⟨_, _, hTO⟩, ⟨_, h1, rfl, rfl⟩, ⟨_, h2, rfl, rfl⟩⟩, fun c hcm => I1.fpOk (top c hcm) (I1.hok.fresh (top c hcm)), q _ _ (walk_zipM rfl) fun H' s => ⟨s.seq hqx, KA.SqT_same s hqy⟩⟩
end GZ

/-! walks and items of what is a list or a tuple; keyword-only parameters -/
namespace GB
open PySem PySem.Spec PyProof.Rows L2 PH KA
section
variable {X : Cx} {tg l : Expr} {tl : TE}
def iBoth (K : PySem.W.Frag) (tl : TE) : TI := fun σ H R => tl σ H fun x H1 => ∃ a, x = .ref a ∧ (((∃ xs, SqL K H1 a xs) ∧ R (Itl K a) H1) ∨ ((∃ xs, SqT K H1 a xs) ∧ R (Itt K a) H1))
theorem pi_both (hl : PE X l tl) : PI X tg l (iBoth X.K tl) := by
  refine ⟨fun pins s σ H R I h => ?_⟩
  refine thn (hl.run pins s σ H _ I h) fun v s1 ⟨x, H1, I1, r1, q1⟩ => ?_
  obtain ⟨a, e, q⟩ := q1
  subst e
  cases r1
  rcases q with ⟨⟨xs, hq⟩, q⟩ | ⟨⟨xs, hq⟩, q⟩
  · obtain ⟨its, rv, p, hz⟩ := I1.list hq
    refine wpAny_pyIter_list p.isList ?_
    refine ⟨s1.heap.objs.size, [s1.heap.objs.size], _, _, H1, rfl, I1.kept (t' := s1.toks) fun b o e => Heap.get?_push_of_some _ e, turn_list a _, ⟨_, Heap.get?_push_size _ rfl, rfl, rfl⟩, fun b hb => ?_, q⟩
    have e : b = s1.heap.objs.size := by simpa using hb
    subst e
    exact I1.fpOk (Nat.le_refl _) (I1.hok.fresh (Nat.le_refl _))
  · obtain ⟨its, rv, p, hz⟩ := I1.tuple hq
    refine wpAny_pyIter_tuple (show s1.heap.IsTuple a its.toArray from p) ?_
    refine ⟨s1.heap.objs.size, [s1.heap.objs.size], _, _, H1, rfl, I1.kept (t' := s1.toks) fun b o e => Heap.get?_push_of_some _ e, turn_tuple a _, ⟨_, Heap.get?_push_size _ rfl, rfl, rfl⟩, fun b hb => ?_, q⟩
    have e : b = s1.heap.objs.size := by simpa using hb
    subst e
    exact I1.fpOk (Nat.le_refl _) (I1.hok.fresh (Nat.le_refl _))
def rIxB (K : PySem.W.Frag) : R2 := fun x y H Q => ∃ p xs i v, x = .ref p ∧ y = .int i ∧ Sq K H p xs ∧ atI xs i = some v ∧ Q v H
theorem ix_both : IxR X (rIxB X.K) := by
  intro value slice pins s σ H x y v u Q I rx ry ⟨p, xs, i, z, e1, e2, hq, he, q⟩ hs
  rcases hq with hq | hq
  · exact ix_list value slice pins s σ H x y v u Q I rx ry ⟨p, xs, i, z, e1, e2, hq, he, q⟩ hs
  · exact ix_tup value slice pins s σ H x y v u Q I rx ry ⟨p, xs, i, z, e1, e2, hq, he, q⟩ hs
end
/-- f(e, .., k = v): the keyword-only parameter is named -/
theorem kbn1 {K : PySem.W.Frag} {x qual : Str} {params : Arguments} {body : List Stmt} {scope : Scope} {kws : List (Str × V)} {f : Addr} {fd : FuncData} {ps : List Str} {k : Str} (F : FunD K x qual params body scope [] kws f fd) (n : Nat)
    (h : ∀ (kV doc pm : Value) (an : Option Addr) (cdv ct : Value) (us : List Value) (w : Value), us.length = n → bindArgs (PySem.W.fnOf x qual params body scope .none kV doc pm an cdv ct) ⟨us, [(k, w)]⟩ = pure (ps.zip (us ++ [w]))) :
    KBn K fd ps n [k] (fun us ws => us ++ ws) (fun vs zs => vs ++ zs) := by
  obtain ⟨oc, od, dV, kV, doc, pm, an, cdv, ct, osl, rfl, lk, hcd, hD, hK⟩ := F.ex
  rcases hD with ⟨_, rfl⟩ | ⟨e, _⟩
  · refine ⟨fun s us ws X l1 l2 => ?_, fun r1 r2 => r1.append r2⟩
    match ws, l2 with
    | [w], _ => exact .of_eq (h kV doc pm an cdv ct us w l1)
  · exact absurd rfl e
end GB

set_option pp.maxSteps 900
/-! is_matching over values of any kind -/
namespace P5I
open PySem PySem.Spec PyProof.Rows L2 KA KD PH PM RM RN K55 K55b K55d DV P5P
abbrev sNu : Stmt := topS 8
abbrev sCont : Stmt := topS 10
theorem scNu : FnScope ["value"] ["value"] (defScope sNu) := ⟨rfl, rfl, rfl, by decide +kernel, rfl, by decide +kernel, by decide +kernel⟩
theorem scCo : FnScope ["outer", "inner"] ["outer", "inner"] (defScope sCont) := ⟨rfl, rfl, rfl, by decide +kernel, rfl, by decide +kernel, by decide +kernel⟩
def isNum : PyData → Bool
  | .int _ => true | _ => false
def isL : PyData → Bool
  | .list _ => true | _ => false
theorem isL_lst {d : PyData} (h : isL d = true) : ∃ ds, d = .list ds := by
  cases d with
  | list ds => exact ⟨ds, rfl⟩
  | _ => exact absurd h (by simp [isL])
theorem kit_l {K : PySem.W.Frag} : ∀ d : PyData, PySem.W.kitOne K (.type (tyS d)) (.type "list") = some (isL d)
  | .none => kit_ty (show kitB "NoneType" "list" = some false by decide +kernel)
  | .bool _ => kit_ty (show kitB "bool" "list" = some false by decide +kernel)
  | .int _ => kit_ty (show kitB "int" "list" = some false by decide +kernel)
  | .str _ => kit_ty (show kitB "str" "list" = some false by decide +kernel)
  | .list _ => kit_ty (show kitB "list" "list" = some true by decide +kernel)
  | .tuple _ => kit_ty (show kitB "tuple" "list" = some false by decide +kernel)
  | .dict _ => kit_ty (show kitB "dict" "list" = some false by decide +kernel)
def plB (n : Nat) : PyData → Bool
  | .int i => decide (0 ≤ i) && decide (i < (n : Int)) | _ => false
theorem pl_int {n : Nat} {d : PyData} (h : plB n d = true) : ∃ i : Int, d = .int i ∧ 0 ≤ i ∧ i < n := by
  cases d with
  | int i =>
    simp only [plB, Bool.and_eq_true, decide_eq_true_eq] at h
    exact ⟨i, rfl, h.1, h.2⟩
  | _ => exact absurd h (by simp [plB])
theorem pl_all {n : Nat} : ∀ {ds : List PyData}, ds.all (plB n) = true → ∃ ns : List Int, ds = dInts ns ∧ ∀ x ∈ ns, 0 ≤ x ∧ x < n
  | [], _ => ⟨[], rfl, fun _ z => nomatch z⟩
  | d :: ds, h => by
    rw [List.all_cons, Bool.and_eq_true] at h
    obtain ⟨i, rfl, h1, h2⟩ := pl_int h.1
    obtain ⟨ns, rfl, hn⟩ := pl_all h.2
    exact ⟨i :: ns, rfl, fun x hx => by
      rcases List.mem_cons.mp hx with rfl | hx
      · exact ⟨h1, h2⟩
      · exact hn x hx⟩
theorem pl_ints {n : Nat} : ∀ {ns : List Int}, (∀ x ∈ ns, 0 ≤ x ∧ x < n) → (dInts ns).all (plB n) = true
  | [], _ => rfl
  | i :: ns, h => by
    show (plB n (.int i) && (dInts ns).all (plB n)) = true
    rw [pl_ints fun x hx => h x (List.mem_cons_of_mem _ hx), Bool.and_true]
    have := h i List.mem_cons_self
    simp only [plB, Bool.and_eq_true, decide_eq_true_eq]
    exact this
def intsOf : List PyData → List Int
  | [] => [] | .int i :: ds => i :: intsOf ds | _ :: ds => intsOf ds
theorem intsOf_ints : ∀ ns : List Int, intsOf (dInts ns) = ns
  | [] => rfl
  | n :: ns => by show n :: intsOf (dInts ns) = _; rw [intsOf_ints ns]
theorem dv_ints_of {f : Addr} {H : Hp} : ∀ {ns : List Int} {xs : List V}, DvAll f H xs (dInts ns) → xs = ns.map V.int
  | [], _, h => by cases h; rfl
  | n :: ns, _, h => by
    cases h with
    | cons h1 h2 =>
      cases h1
      rw [dv_ints_of h2]
      rfl
def cB (o r : Int × Int) : Bool := decide (o.1 ≤ r.1) && decide (r.2 ≤ o.2)
def okP (rs ss : List (Int × Int)) (ns : List Int) (i : Nat) : Bool := cB (at0 ss ((ns[i]?).getD 0).toNat) (at0 rs i)
def matN (rs ss : List (Int × Int)) (ns : List Int) : Bool := decide ns.Nodup && (List.range rs.length).all (okP rs ss ns)
/-- a matching of rs into ss -/
def matB (rs ss : List (Int × Int)) : PyData → Bool
  | .list ds => decide (ds.length = rs.length) && (ds.all (plB ss.length) && matN rs ss (intsOf ds))
  | _ => false
theorem matB_not {rs ss : List (Int × Int)} {d : PyData} (h : isL d = false) : matB rs ss d = false := by
  cases d with
  | list ds => exact absurd h (by simp [isL])
  | _ => rfl
theorem sub_len : ∀ {ns ks : List Int}, ks.Nodup → (∀ k ∈ ks, k ∈ ns) → ks.length ≤ ns.length ∧ (ks.length = ns.length → ns.Nodup)
  | [], ks, _, h => by
    have : ks = [] := List.eq_nil_iff_forall_not_mem.mpr fun k hk => nomatch h k hk
    subst this
    exact ⟨Nat.le_refl _, fun _ => List.nodup_nil⟩
  | x :: t, ks, nd, h => by
    have nd2 : (ks.erase x).Nodup := nd.erase x
    have sub : ∀ k ∈ ks.erase x, k ∈ t := fun k hk => by
      have e := (nd.mem_erase_iff).mp hk
      rcases List.mem_cons.mp (h k e.2) with z | z
      · exact absurd z e.1
      · exact z
    obtain ⟨l1, l2⟩ := sub_len nd2 sub
    have le := List.length_erase (a := x) (l := ks)
    by_cases hx : x ∈ ks
    · rw [if_pos hx] at le
      have lp := List.length_pos_of_mem hx
      refine ⟨by rw [List.length_cons]; omega, fun e => ?_⟩
      rw [List.length_cons] at e
      refine List.nodup_cons.mpr ⟨fun hxt => ?_, l2 (by omega)⟩
      have l3 := (sub_len nd (ns := t) fun k hk => by
        rcases List.mem_cons.mp (h k hk) with z | z
        · rw [z]; exact hxt
        · exact z).1
      omega
    · rw [if_neg hx] at le
      refine ⟨by rw [List.length_cons]; omega, fun e => ?_⟩
      rw [List.length_cons] at e
      omega
theorem set_len {ns ks : List Int} (nd : ks.Nodup) (h : ∀ k, k ∈ ks ↔ decide (k ∈ ns) = true) : decide (V.int (ks.length : Nat) = V.int (ns.length : Nat)) = decide ns.Nodup := by
  have h' : ∀ k, k ∈ ks ↔ k ∈ ns := fun k => by rw [h k, decide_eq_true_eq]
  by_cases e : ns.Nodup
  · rw [decide_eq_true e]
    have a := (sub_len nd fun k hk => (h' k).mp hk).1
    have b := (sub_len e fun k hk => (h' k).mpr hk).1
    exact decide_eq_true (by rw [show ks.length = ns.length by omega])
  · rw [decide_eq_false e]
    refine decide_eq_false fun z => e ((sub_len nd fun k hk => (h' k).mp hk).2 ?_)
    simp only [V.int.injEq] at z
    omega
theorem map_take {α β : Type} {g : α → β} {ds : List α} {i : Nat} {d : α} (e : ds[i]? = some d) : (ds.take (i + 1)).map g = (ds.take i).map g ++ [g d] := by
  rw [List.take_add_one, e, Option.toList_some, List.map_append]
  rfl
theorem all_id' {α : Type} {g : α → Bool} (ds : List α) : (ds.map g).all id = ds.all g := by
  rw [List.all_map]
  rfl
section
variable {P : Program} {w : World} {K : PySem.W.Frag} {mg : Str → Option Value} {base : Heap}
def spCont (K : PySem.W.Frag) : Sp := fun vs H Q _ => ∃ (p q : Addr) (a b c d : Int), vs = [.ref p, .ref q] ∧ SqT K H p [.int a, .int b] ∧ SqT K H q [.int c, .int d] ∧ Q (.bl (decide (a ≤ c) && decide (d ≤ b))) H
theorem ok_Cont {f : Addr} {fd : FuncData} {k : Nat} (F : Fun K "contains" "contains" sCont f fd) : FnOk P w K mg base CX0 (k + 1) f fd ["outer", "inner"] (spCont K) := by
  refine F.ok scCo (fun vs H Q E h => ?_) (fun cdv A outer s H vs Q E hr h => ?_)
  · obtain ⟨p, q, a, b, c, d, rfl, _⟩ := h
    rfl
  · obtain ⟨p, q, a, b, c, d, rfl, h1, h2, hq⟩ := h
    refine ⟨_, pss_one (ps_ret (pe_and (pe_cmpR op_le (pe_ix ix_tup (pv 0) pe_int (fun _ _ => rfl)) (pe_ix ix_tup (pv 1) pe_int (fun _ _ => rfl)) (nomark _)) (pe_one (pe_cmpR op_le (pe_ix ix_tup (pv 1) pe_int (fun _ _ => rfl)) (pe_ix ix_tup (pv 0) pe_int (fun _ _ => rfl)) (nomark _))))), ?_⟩
    refine ⟨.ref p, rfl, p, _, 0, .int a, rfl, rfl, h1, rfl, .ref q, rfl, q, _, 0, .int c, rfl, rfl, h2, rfl, a, c, rfl, rfl, _, rfl, ?_⟩
    by_cases e : a ≤ c
    · rw [decide_eq_true e] at hq ⊢
      exact iteT ⟨.ref q, rfl, q, _, 1, .int d, rfl, rfl, h2, rfl, .ref p, rfl, p, _, 1, .int b, rfl, rfl, h1, rfl, d, b, rfl, rfl, hq⟩
    · rw [decide_eq_false e] at hq ⊢
      exact iteF hq
def spNu : Sp := fun vs H Q _ => ∃ (v : V) (g : Addr) (d : PyData), vs = [v] ∧ Dv g H v d ∧ Q (.bl (isNum d)) H
theorem ok_nu {f : Addr} {fd : FuncData} {k : Nat} (F : Fun K "is_number" "is_number" sNu f fd) (ms : mg "isinstance" = none) (mi : mg "int" = none) (mb : mg "bool" = none) : FnOk P w K mg base CX0 (k + 1) f fd ["value"] spNu := by
  refine F.ok scNu (fun vs H Q E h => ?_) (fun cdv A outer s H vs Q E hr h => ?_)
  · obtain ⟨v, g, d, rfl, hd, hq⟩ := h
    rfl
  · obtain ⟨v, g, d, rfl, hd, hq⟩ := h
    refine ⟨_, (pss_one (ps_ret (pe_and (pe_callB call_isi (by rfl) ms (by decide +kernel) (pa_cons (pv 0) (pa_cons (pe_bltn (v := .ty "int") (by rfl) mi (by decide +kernel) rfl) pa_nil))) (pe_one (pe_not (pe_callB call_isi (by rfl) ms (by decide +kernel) (pa_cons (pv 0) (pa_cons (pe_bltn (v := .ty "bool") (by rfl) mb (by decide +kernel) rfl) pa_nil)))))))), ?_⟩
    refine ⟨v, rfl, v, .ty "int", _, .type "int", _, rfl, .ty "int", hd.ty, kit_i d, _, rfl, ?_⟩
    cases hi : isI d with
    | false =>
      rw [show isNum d = false by cases d <;> simp_all [isI, isNum]] at hq
      exact iteF hq
    | true =>
      refine iteT ⟨v, rfl, v, .ty "bool", _, .type "bool", _, rfl, .ty "bool", hd.ty, kit_b d, _, rfl, ?_⟩
      rw [show isNum d = !isB d by cases d <;> simp_all [isI, isB, isNum]] at hq
      exact hq
end
end P5I

/-! a matching is there exactly if no set of ranges is around more of the first list than of the second -/
namespace K55c
open K55 K55b
theorem sub_len {α : Type} [DecidableEq α] : ∀ {l m : List α}, l.Nodup → (∀ x ∈ l, x ∈ m) → l.length ≤ m.length
  | [], _, _, _ => Nat.zero_le _
  | a :: l, m, nd, h => by
    have n := List.nodup_cons.mp nd
    have ih := sub_len (l := l) (m := m.erase a) n.2 fun x hx => by
      have : x ≠ a := fun z => n.1 (z ▸ hx)
      exact (List.mem_erase_of_ne this).mpr (h x (List.mem_cons_of_mem _ hx))
    have e := List.length_erase_of_mem (h a List.mem_cons_self)
    have pos : 0 < m.length := List.length_pos_of_mem (h a List.mem_cons_self)
    rw [List.length_cons]
    omega
/-- the places of the ranges that are around one of a set -/
def plcs (s : Nat → Rg) (m : Nat) (V : List Rg) : List Nat := (List.range m).filter fun i => V.any (hasB (s i))
theorem plcs_mem {s : Nat → Rg} {m i : Nat} {V : List Rg} : i ∈ plcs s m V ↔ i < m ∧ ∃ v ∈ V, cont (s i) v := by
  unfold plcs
  rw [List.mem_filter, List.mem_range, List.any_eq_true]
  constructor
  · rintro ⟨h, v, hv, c⟩
    exact ⟨h, v, hv, hasB_iff.mp c⟩
  · rintro ⟨h, v, hv, c⟩
    exact ⟨h, v, hv, hasB_iff.mpr c⟩
theorem plcs_nd (s : Nat → Rg) (m : Nat) (V : List Rg) : (plcs s m V).Nodup := List.nodup_range.sublist List.filter_sublist
theorem cont_refl (r : Rg) : cont r r := ⟨Int.le_refl _, Int.le_refl _⟩
theorem cont_trans {a b c : Rg} (h : cont a b) (g : cont b c) : cont a c := by unfold cont at *; omega
/-- with a matching no set is around more of the first list -/
theorem matched {f s : Nat → Rg} {n m : Nat} {o : Nat → Nat} (lt : ∀ i, i < n → o i < m) (has : ∀ i, i < n → cont (s (o i)) (f i)) (inj : ∀ i j, i < n → j < n → o i = o j → i = j) (V : List Rg) : (plcs f n V).length ≤ (plcs s m V).length := by
  have h : ((plcs f n V).map o).length ≤ (plcs s m V).length := sub_len (by
      refine List.pairwise_map.mpr ?_
      refine (plcs_nd f n V).imp_of_mem fun {i j} hi hj ne e => ne (inj i j (plcs_mem.mp hi).1 (plcs_mem.mp hj).1 e)) fun x hx => by
    obtain ⟨i, hi, rfl⟩ := List.mem_map.mp hx
    obtain ⟨h1, v, hv, c⟩ := plcs_mem.mp hi
    exact plcs_mem.mpr ⟨lt i h1, v, hv, cont_trans (has i h1) c⟩
  rw [List.length_map] at h
  exact h
/-- a crowd is around more of the first list than of the second -/
theorem crowded {f s : Nat → Rg} {n m a : Nat} {d : List (Nat × Nat)} (ha : a < n) (hd : ∀ e ∈ d, e.1 < n) (nd : (d.map (·.1)).Nodup) (na : a ∉ d.map (·.1)) (S : Nat × Nat → Prop)
    (own : ∀ q, q < m → (cont (s q) (f a) ∨ ∃ e, (S e ∧ e ∈ d) ∧ cont (s q) (f e.1)) → ∃ e, (S e ∧ e ∈ d) ∧ e.2 = q) : ∃ V : List Rg, V ≠ [] ∧ (∀ v ∈ V, ∃ i, i < n ∧ v = f i) ∧ (plcs s m V).length < (plcs f n V).length := by
  classical
  let T := d.filter fun e => decide (S e)
  have tm : ∀ e, e ∈ T ↔ S e ∧ e ∈ d := fun e => by
    show e ∈ d.filter _ ↔ _
    rw [List.mem_filter]
    simp [And.comm]
  refine ⟨f a :: T.map fun e => f e.1, by simp, fun v hv => ?_, ?_⟩
  · rcases List.mem_cons.mp hv with z | z
    · exact ⟨a, ha, z⟩
    · obtain ⟨e, he, rfl⟩ := List.mem_map.mp z
      exact ⟨e.1, hd e ((tm e).mp he).2, rfl⟩
  · have up : (plcs s m (f a :: T.map fun e => f e.1)).length ≤ (T.map (·.2)).length := sub_len (plcs_nd _ _ _) fun q hq => by
      obtain ⟨h1, v, hv, c⟩ := plcs_mem.mp hq
      obtain ⟨e, he, e2⟩ := own q h1 (by
        rcases List.mem_cons.mp hv with z | z
        · exact .inl (z ▸ c)
        · obtain ⟨e, he, rfl⟩ := List.mem_map.mp z
          exact .inr ⟨e, (tm e).mp he, c⟩)
      exact List.mem_map.mpr ⟨e, (tm e).mpr he, e2⟩
    have down : (a :: T.map (·.1)).length ≤ (plcs f n (f a :: T.map fun e => f e.1)).length := sub_len (by
        refine List.nodup_cons.mpr ⟨fun z => ?_, nd.sublist (List.filter_sublist.map _)⟩
        obtain ⟨e, he, e2⟩ := List.mem_map.mp z
        exact na (List.mem_map.mpr ⟨e, ((tm e).mp he).2, e2⟩)) fun i hi => by
      rcases List.mem_cons.mp hi with z | z
      · subst z
        exact plcs_mem.mpr ⟨ha, f i, List.mem_cons_self, cont_refl _⟩
      · obtain ⟨e, he, e2⟩ := List.mem_map.mp z
        subst e2
        exact plcs_mem.mpr ⟨hd e ((tm e).mp he).2, f e.1, List.mem_cons_of_mem _ (List.mem_map.mpr ⟨e, he, rfl⟩), cont_refl _⟩
    rw [List.length_map] at up
    rw [List.length_cons, List.length_map] at down
    omega
/-- the greedy way from what has been done on: either all find a place, each its own, or there is a crowd -/
theorem go_or {f s : Nat → Rg} {fr0 : List Nat} {n m : Nat} (hm : ∀ q, q ∈ fr0 ↔ q < m) : ∀ (L fr : List Nat) (d : List (Nat × Nat)), Inv f s fr0 d fr → (∀ a ∈ L, a < n) → (∀ e ∈ d, e.1 < n) → (d.map (·.1) ++ L).Nodup →
    (d.map (fun e => (f e.1).1) ++ L.map (fun a => (f a).1)).Pairwise (· ≤ ·) →
    (∃ d3 fr2, Inv f s fr0 (d ++ d3) fr2 ∧ d3.map (·.1) = L ∧ go f s L fr = d3.map (fun e => (e.1, some e.2))) ∨ ((∃ a ∈ L, (a, none) ∈ go f s L fr) ∧ ∃ V : List Rg, V ≠ [] ∧ (∀ v ∈ V, ∃ i, i < n ∧ v = f i) ∧ (plcs s m V).length < (plcs f n V).length)
  | [], fr, d, v, _, _, _, _ => .inl ⟨[], fr, by simpa using v, rfl, rfl⟩
  | a :: L, fr, d, v, hL, hd, nd, srt => by
    have srt2 := List.pairwise_append.mp srt
    have hlow : ∀ e ∈ d, (f e.1).1 ≤ (f a).1 := fun e he => srt2.2.2 _ (List.mem_map.mpr ⟨e, he, rfl⟩) _ (List.mem_map.mpr ⟨a, List.mem_cons_self, rfl⟩)
    cases h : fr.find? (fun p => hasB (s p) (f a)) with
    | none =>
      right
      refine ⟨⟨a, List.mem_cons_self, by unfold go; rw [h]; exact List.mem_cons_self⟩, ?_⟩
      obtain ⟨S, h1, h2⟩ := inv_fail v hm (fun i j e g hij hi hj => by
        rcases Nat.lt_or_eq_of_le hij with z | z
        · have hjl := (List.getElem?_eq_some_iff.mp hj).1
          have p := List.pairwise_iff_getElem.mp srt2.1 i j (by rw [List.length_map]; omega) (by rw [List.length_map]; omega) z
          rw [List.getElem_map, List.getElem_map] at p
          rw [(List.getElem?_eq_some_iff.mp hi).2, (List.getElem?_eq_some_iff.mp hj).2] at p
          exact p
        · subst z
          rw [hi] at hj
          rw [Option.some.inj hj]
          exact Int.le_refl _) hlow h
      have ndl := List.nodup_append.mp nd
      refine crowded (hL a List.mem_cons_self) hd ndl.1 (fun z => ndl.2.2 a z a List.mem_cons_self rfl) S fun q hq k => ?_
      obtain ⟨e, he, e2⟩ := h2 q hq (by
        rcases k with k | ⟨e, he, c⟩
        · exact .inl k
        · exact .inr ⟨e, he.1, c⟩)
      exact ⟨e, ⟨he, h1 e he⟩, e2⟩
    | some p =>
      have v2 := inv_step v h
      have ih := go_or hm L (fr.erase p) (d ++ [(a, p)]) v2 (fun b hb => hL b (List.mem_cons_of_mem _ hb)) (fun e he => by
        rcases List.mem_append.mp he with z | z
        · exact hd e z
        · rw [List.mem_singleton.mp z]; exact hL a List.mem_cons_self) (by simpa using nd) (by simpa using srt)
      rcases ih with ⟨d3, fr2, v3, e1, e2⟩ | ⟨⟨b, hb, k⟩, V, hV⟩
      · refine .inl ⟨(a, p) :: d3, fr2, by simpa using v3, by rw [List.map_cons, e1], ?_⟩
        unfold go
        rw [h]
        show (a, some p) :: go f s L (fr.erase p) = _
        rw [e2]
        rfl
      · refine .inr ⟨⟨b, List.mem_cons_of_mem _ hb, ?_⟩, V, hV⟩
        unfold go
        rw [h]
        exact List.mem_cons_of_mem _ k
end K55c

set_option pp.maxSteps 900
/-! never_more, matching -/
namespace P5N
open PySem PySem.Spec PyProof.Rows L2 KA KD PH PM RM RN K55 K55b K55c K55d P5P
abbrev sMA : Stmt := topS 18
theorem scMA : FnScope ["first", "second", "places", "crowd", "low", "high"] ["first", "second"] (defScope sMA) := ⟨rfl, rfl, rfl, by decide +kernel, rfl, by decide +kernel, by decide +kernel⟩
/-- each range of the first list has a place of its own around it in the second -/
def NM (rs ss : List (Int × Int)) : Prop := ∃ o : Nat → Nat, (∀ i, i < rs.length → o i < ss.length) ∧ (∀ i, i < rs.length → cont (at0 ss (o i)) (at0 rs i)) ∧ ∀ i j, i < rs.length → j < rs.length → o i = o j → i = j
noncomputable def nm (rs ss : List (Int × Int)) : Bool := @decide (NM rs ss) (Classical.propDecidable _)
theorem nm_iff {rs ss : List (Int × Int)} : nm rs ss = true ↔ NM rs ss := by unfold nm; exact @decide_eq_true_iff _ (Classical.propDecidable _)
/-- places of its own for each, as a list -/
def Mt (rs ss : List (Int × Int)) (ps : List Int) : Prop := ps.length = rs.length ∧ ps.Nodup ∧ ∀ i, i < rs.length → ∃ p : Nat, ps[i]? = some (p : Int) ∧ p < ss.length ∧ cont (at0 ss p) (at0 rs i)
theorem go_keys {f s : Nat → Rg} : ∀ (L fr : List Nat), (go f s L fr).map (·.1) = L
  | [], _ => rfl
  | a :: L, fr => by
    simp only [go]
    split
    · rw [List.map_cons, go_keys L fr]
    · rw [List.map_cons, go_keys L _]
theorem look_nodup : ∀ {l : List (Nat × Option Nat)} {a : Nat} {x : Option Nat}, (a, x) ∈ l → (l.map (·.1)).Nodup → l.lookup a = some x
  | (b, y) :: l, a, x, m, nd => by
    have nd2 := List.nodup_cons.mp nd
    rw [List.lookup_cons]
    rcases List.mem_cons.mp m with z | z
    · cases z
      simp
    · have : (a == b) = false := by
        have : a ≠ b := fun e => nd2.1 (by rw [← e]; exact List.mem_map.mpr ⟨_, z, rfl⟩)
        simpa using this
      rw [this]
      exact look_nodup z nd2.2
theorem res_flat (d : List (Nat × Option Nat)) (n : Nat) : (res d n).all flatV = true := by
  unfold res
  rw [List.all_map]
  refine List.all_eq_true.mpr fun i _ => ?_
  show flatV (match d.lookup i with | some (some p) => V.int (p : Int) | _ => V.non) = true
  split <;> rfl
theorem snd_inj : ∀ {d : List (Nat × Nat)} {e g : Nat × Nat}, (d.map (·.2)).Nodup → e ∈ d → g ∈ d → e.2 = g.2 → e = g
  | x :: d, e, g, nd, he, hg, h => by
    have nd2 := List.nodup_cons.mp nd
    rcases List.mem_cons.mp he with z | z <;> rcases List.mem_cons.mp hg with y | y
    · rw [z, y]
    · exact absurd (List.mem_map.mpr ⟨g, y, by rw [← h, z]⟩) nd2.1
    · exact absurd (List.mem_map.mpr ⟨e, z, by rw [h, y]⟩) nd2.1
    · exact snd_inj nd2.2 z y h
section
variable {rs ss : List (Int × Int)} {L fr0 : List Nat}
theorem two (pL : L.Perm (List.range rs.length)) (oL : L.Pairwise (ordL rs)) (pf : fr0.Perm (List.range ss.length)) (sf : (fr0.map (K55d.pr (at0 ss))).Pairwise Le) :
    (∃ o : Nat → Nat, res (go (at0 rs) (at0 ss) L fr0) rs.length = (List.range rs.length).map (fun i => V.int (o i : Nat)) ∧ (∀ i, i < rs.length → o i < ss.length) ∧ (∀ i, i < rs.length → cont (at0 ss (o i)) (at0 rs i)) ∧ ∀ i j, i < rs.length → j < rs.length → o i = o j → i = j) ∨
    (V.non ∈ res (go (at0 rs) (at0 ss) L fr0) rs.length ∧ ¬ NM rs ss) := by
  have nd0 : fr0.Nodup := pf.nodup_iff.mpr List.nodup_range
  have ndL : L.Nodup := pL.nodup_iff.mpr List.nodup_range
  have hm : ∀ q, q ∈ fr0 ↔ q < ss.length := fun q => by rw [pf.mem_iff, List.mem_range]
  have hL : ∀ a ∈ L, a < rs.length := fun a m => List.mem_range.mp (pL.mem_iff.mp m)
  have srt : fr0.Pairwise fun p q => (at0 ss p).2 ≤ (at0 ss q).2 := (List.pairwise_map.mp sf).imp fun {x y} h => by
    simp only [Le, K55d.pr] at h
    omega
  have v0 : Inv (at0 rs) (at0 ss) fr0 [] fr0 := ⟨fun q => ⟨fun h => ⟨h, fun _ z => (List.not_mem_nil z).elim⟩, fun h => h.1⟩, nd0, srt, fun _ z => (List.not_mem_nil z).elim, List.nodup_nil, fun i e q h => by simp at h⟩
  rcases go_or hm L fr0 [] v0 hL (fun _ z => (List.not_mem_nil z).elim) (by simpa using ndL) (by simpa using (List.pairwise_map.mpr (oL.imp fun {x y} h => ord_low h))) with ⟨d3, fr2, iv, hk, hg⟩ | ⟨⟨a, ha, hn⟩, V0, hV, hVi, hlt⟩
  · left
    have iv : Inv (at0 rs) (at0 ss) fr0 d3 fr2 := by simpa using iv
    have keys : ∀ i, i < rs.length → ∃ p, (i, p) ∈ d3 := fun i hi => by
      have : i ∈ L := pL.mem_iff.mpr (List.mem_range.mpr hi)
      rw [← hk] at this
      obtain ⟨e, he, rfl⟩ := List.mem_map.mp this
      exact ⟨e.2, he⟩
    have look : ∀ i p, (i, p) ∈ d3 → (go (at0 rs) (at0 ss) L fr0).lookup i = some (some p) := fun i p m => look_nodup (by rw [hg]; exact List.mem_map.mpr ⟨(i, p), m, rfl⟩) (by rw [go_keys]; exact ndL)
    refine ⟨fun i => match (go (at0 rs) (at0 ss) L fr0).lookup i with | some (some p) => p | _ => 0, ?_, fun i hi => ?_, fun i hi => ?_, fun i j hi hj h => ?_⟩
    · unfold res
      refine List.map_congr_left fun i hi => ?_
      obtain ⟨p, m⟩ := keys i (List.mem_range.mp hi)
      rw [look i p m]
      show V.int (p : Int) = V.int (((match (go (at0 rs) (at0 ss) L fr0).lookup i with | some (some p) => p | _ => 0 : Nat)) : Int)
      rw [look i p m]
    · obtain ⟨p, m⟩ := keys i hi
      show (match (go (at0 rs) (at0 ss) L fr0).lookup i with | some (some p) => p | _ => 0) < _
      rw [look i p m]
      exact (hm p).mp (iv.mem _ m).1
    · obtain ⟨p, m⟩ := keys i hi
      show cont (at0 ss (match (go (at0 rs) (at0 ss) L fr0).lookup i with | some (some p) => p | _ => 0)) _
      rw [look i p m]
      exact (iv.mem _ m).2
    · obtain ⟨p, m⟩ := keys i hi
      obtain ⟨q, m2⟩ := keys j hj
      have h : (match (go (at0 rs) (at0 ss) L fr0).lookup i with | some (some p) => p | _ => 0) = (match (go (at0 rs) (at0 ss) L fr0).lookup j with | some (some p) => p | _ => 0) := h
      rw [look i p m, look j q m2] at h
      exact congrArg Prod.fst (snd_inj iv.inj m m2 h)
  · right
    refine ⟨?_, fun ⟨o, h1, h2, h3⟩ => absurd (matched h1 h2 h3 V0) (by omega)⟩
    unfold res
    refine List.mem_map.mpr ⟨a, List.mem_range.mpr (hL a ha), ?_⟩
    rw [look_nodup hn (by rw [go_keys]; exact ndL)]
theorem inv_non : ∀ {xs : List V}, inV .non xs = true ↔ V.non ∈ xs
  | [] => by simp [inV]
  | x :: xs => by
    have ih := inv_non (xs := xs)
    unfold inV at ih ⊢
    rw [List.any_cons, Bool.or_eq_true, ih, List.mem_cons]
    refine or_congr ⟨fun h => ?_, fun h => by rw [← h]; rfl⟩ Iff.rfl
    cases x with
    | non => rfl
    | _ => cases h
theorem best_says (pL : L.Perm (List.range rs.length)) (oL : L.Pairwise (ordL rs)) (pf : fr0.Perm (List.range ss.length)) (sf : (fr0.map (K55d.pr (at0 ss))).Pairwise Le) :
    (res (go (at0 rs) (at0 ss) L fr0) rs.length).all flatV = true ∧ (!inV .non (res (go (at0 rs) (at0 ss) L fr0) rs.length)) = nm rs ss := by
  refine ⟨res_flat _ _, ?_⟩
  rcases two pL oL pf sf with ⟨o, e, h⟩ | ⟨h1, h2⟩
  · have : nm rs ss = true := nm_iff.mpr ⟨o, h⟩
    rw [this]
    cases hn : inV .non (res (go (at0 rs) (at0 ss) L fr0) rs.length) with
    | false => rfl
    | true =>
      have m := inv_non.mp hn
      rw [e] at m
      obtain ⟨i, _, z⟩ := List.mem_map.mp m
      cases z
  · rw [inv_non.mpr h1]
    cases hn : nm rs ss with
    | false => rfl
    | true => exact absurd (nm_iff.mp hn) h2
theorem best_all (pL : L.Perm (List.range rs.length)) (oL : L.Pairwise (ordL rs)) (pf : fr0.Perm (List.range ss.length)) (sf : (fr0.map (K55d.pr (at0 ss))).Pairwise Le) (hn : nm rs ss = true) :
    ∃ ps : List Int, res (go (at0 rs) (at0 ss) L fr0) rs.length = ps.map V.int ∧ Mt rs ss ps := by
  rcases two pL oL pf sf with ⟨o, e, h1, h2, h3⟩ | ⟨_, h2⟩
  · refine ⟨(List.range rs.length).map fun i => ((o i : Nat) : Int), by rw [e, List.map_map]; rfl, by rw [List.length_map, List.length_range], ?_, fun i hi => ⟨o i, by rw [List.getElem?_map, List.getElem?_range hi]; rfl, h1 i hi, h2 i hi⟩⟩
    rw [List.Nodup, List.pairwise_map]
    refine List.Pairwise.imp_of_mem (fun {i j} hi hj ne z => ?_) List.nodup_range
    exact ne (h3 i j (List.mem_range.mp hi) (List.mem_range.mp hj) (by omega))
  · exact absurd (nm_iff.mp hn) h2
end
section
variable {P : Program} {w : World} {K : PySem.W.Frag} {mg : Str → Option Value} {base : Heap}
def spMA (K : PySem.W.Frag) : Sp := fun vs H Q _ => ∃ (a b : Addr) (xs ys : List V) (rs ss : List (Int × Int)), vs = [.ref a, .ref b] ∧ Sq K H a xs ∧ PairsAt H xs rs ∧ Sq K H b ys ∧ PairsAt H ys ss ∧ rs.length ≤ 500 ∧ ss.length ≤ 500 ∧ nm rs ss = true ∧
  ∀ H' c (ps : List Int), Same H H' → H c = none → H' c = some (.lst (ps.map V.int)) → Mt rs ss ps → Q (.ref c) H'
theorem ok_MA {f fBP : Addr} {fd dBP : FuncData} {k : Nat} (F : Fun K "matching" "matching" sMA f fd) (GBP : FnOk P w K mg base CX0 (k + 3) fBP dBP ["first", "second"] (spBP K)) (gBP : mg "_best_places" = some (.ref fBP)) (kBP : PySem.W.keepIn K (.ref fBP) = true) (bBP : Binds K dBP ["first", "second"] []) : FnOk P w K mg base CX0 (k + 4) f fd ["first", "second"] (spMA K) := by
  refine F.ok scMA (fun vs H Q E h => ?_) (fun cdv A outer s H vs Q E hr h => ?_)
  · obtain ⟨a, b, xs, ys, rs, ss, rfl, _⟩ := h
    rfl
  · obtain ⟨a, b, xs, ys, rs, ss, rfl, hA, pa, hB, pb, la, lb, hn, hq⟩ := h
    refine ⟨_, (pss_cons (ps_set (i := 2) scMA.nd rfl (.inl rfl) (pe_call GBP hr (by rfl) gBP kBP bBP .nil pass0 (pa_cons (pv 0) (pa_cons (pv 1) pa_nil))))
      (pss_cons (ps_if (pt_cmpR op_in_seq pe_non (pv 2) (by rfl)) pss_never pss_nil)
      (pss_one (ps_ret (pv 2))))), ?_⟩
    refine ⟨.ref a, rfl, .ref b, rfl, a, b, xs, ys, rs, ss, rfl, hA, pa, hB, pb, la, lb, fun H' c L fr0 s nc hc pL oL pf sf => ?_⟩
    obtain ⟨e1, e2⟩ := best_says pL oL pf sf
    obtain ⟨ps, e3, mt⟩ := best_all pL oL pf sf hn
    refine ⟨.ref c, rfl, c, _, rfl, .inl (SqL.of hc), rfl, e1, _, rfl, ?_⟩
    have e4 : inV .non (res (go (at0 rs) (at0 ss) L fr0) rs.length) = false := by
      rw [hn] at e2
      simpa using e2
    show if inV .non _ = true then _ else _
    rw [e4]
    refine iteF ⟨.ref c, rfl, hq H' c ps s nc (by rw [← e3]; exact hc) mt⟩
end
end P5N

/-! the crowd that a search from a range without a place finds -/
namespace K58a
open K55 K55b K55c
theorem low_ok {f : Nat → Rg} {d : List (Nat × Nat)} {L : List Nat} {a : Nat} (srt : (d.map (fun e => (f e.1).1) ++ (a :: L).map (fun a => (f a).1)).Pairwise (· ≤ ·)) :
    (∀ (i j : Nat) (e g : Nat × Nat), i ≤ j → d[i]? = some e → d[j]? = some g → (f e.1).1 ≤ (f g.1).1) ∧ ∀ e ∈ d, (f e.1).1 ≤ (f a).1 := by
  have srt2 := List.pairwise_append.mp srt
  refine ⟨fun i j e g hij hi hj => ?_, fun e he => srt2.2.2 _ (List.mem_map.mpr ⟨e, he, rfl⟩) _ (List.mem_map.mpr ⟨a, List.mem_cons_self, rfl⟩)⟩
  rcases Nat.lt_or_eq_of_le hij with z | z
  · have hjl := (List.getElem?_eq_some_iff.mp hj).1
    have p := List.pairwise_iff_getElem.mp srt2.1 i j (by rw [List.length_map]; omega) (by rw [List.length_map]; omega) z
    rw [List.getElem_map, List.getElem_map] at p
    rw [(List.getElem?_eq_some_iff.mp hi).2, (List.getElem?_eq_some_iff.mp hj).2] at p
    exact p
  · subst z
    rw [hi] at hj
    rw [Option.some.inj hj]
    exact Int.le_refl _
/-- those that found a place, in the end -/
def won (r : List (Nat × Option Nat)) : List (Nat × Nat) := r.filterMap fun e => e.2.map fun p => (e.1, p)
theorem won_mem {r : List (Nat × Option Nat)} {a p : Nat} : (a, p) ∈ won r ↔ (a, some p) ∈ r := by
  unfold won
  rw [List.mem_filterMap]
  constructor
  · rintro ⟨⟨b, o⟩, h, e⟩
    cases o with
    | none => cases e
    | some q =>
      cases e
      exact h
  · exact fun h => ⟨_, h, rfl⟩
theorem won_keys : ∀ {r : List (Nat × Option Nat)}, ((won r).map (·.1)).Sublist (r.map (·.1))
  | [] => .slnil
  | (a, none) :: r => by
    show ((won r).map (·.1)).Sublist (a :: r.map (·.1))
    exact .cons _ won_keys
  | (a, some p) :: r => by
    show (a :: (won r).map (·.1)).Sublist (a :: r.map (·.1))
    exact .cons_cons _ won_keys
/-- the end of the greedy way -/
theorem go_end {f s : Nat → Rg} {fr0 : List Nat} : ∀ (L fr : List Nat) (d : List (Nat × Nat)), Inv f s fr0 d fr → ∃ fr2, Inv f s fr0 (d ++ won (go f s L fr)) fr2
  | [], fr, d, v => ⟨fr, by simpa [won, go] using v⟩
  | a :: L, fr, d, v => by
    cases h : fr.find? (fun p => hasB (s p) (f a)) with
    | none =>
      obtain ⟨fr2, v2⟩ := go_end L fr d v
      refine ⟨fr2, ?_⟩
      unfold go
      rw [h]
      exact v2
    | some p =>
      obtain ⟨fr2, v2⟩ := go_end L (fr.erase p) (d ++ [(a, p)]) (inv_step v h)
      refine ⟨fr2, ?_⟩
      unfold go
      rw [h]
      show Inv f s fr0 (d ++ (a, p) :: won (go f s L (fr.erase p))) fr2
      rw [List.append_cons]
      exact v2
/-- around one that found no place, and around those that took its places, all places are taken: in the end, too -/
theorem closed {f s : Nat → Rg} {fr0 : List Nat} {m : Nat} (hm : ∀ q, q ∈ fr0 ↔ q < m) : ∀ (L fr : List Nat) (d : List (Nat × Nat)), Inv f s fr0 d fr →
    (d.map (fun e => (f e.1).1) ++ L.map (fun a => (f a).1)).Pairwise (· ≤ ·) → ∀ a, (a, none) ∈ go f s L fr →
    ∃ S : Nat × Nat → Prop, (∀ e, S e → e ∈ d ++ won (go f s L fr)) ∧ ∀ q, q < m → (cont (s q) (f a) ∨ ∃ e, S e ∧ cont (s q) (f e.1)) → ∃ e, S e ∧ e.2 = q
  | [], fr, d, v, srt, a, h => by
    unfold go at h
    exact (List.not_mem_nil h).elim
  | b :: L, fr, d, v, srt, a, h => by
    obtain ⟨lo1, lo2⟩ := low_ok srt
    unfold go at h ⊢
    cases hf : fr.find? (fun p => hasB (s p) (f b)) with
    | none =>
      rw [hf] at h
      rcases List.mem_cons.mp h with e | h
      · cases e
        obtain ⟨S, h1, h2⟩ := inv_fail v hm lo1 lo2 hf
        exact ⟨S, fun e he => List.mem_append_left _ (h1 e he), h2⟩
      · obtain ⟨S, h1, h2⟩ := closed hm L fr d v (srt.sublist (List.Sublist.append (List.Sublist.refl _) (List.Sublist.map _ (List.sublist_cons_self b L)))) a h
        exact ⟨S, h1, h2⟩
    | some p =>
      rw [hf] at h
      rcases List.mem_cons.mp h with e | h
      · cases e
      · obtain ⟨S, h1, h2⟩ := closed hm L (fr.erase p) (d ++ [(b, p)]) (inv_step v hf) (by simpa using srt) a h
        refine ⟨S, fun e he => ?_, h2⟩
        show e ∈ d ++ (b, p) :: won (go f s L (fr.erase p))
        rw [List.append_cons]
        exact h1 e he
/-- the search: R done, W waiting, O owners (place, owner) still there, G gone ones -/
structure Srch (f s : Nat → Rg) (n m a : Nat) (S : Nat × Nat → Prop) (D : List (Nat × Nat)) (R W : List Nat) (O G : List (Nat × Nat)) : Prop where
  per : (O ++ G).Perm D
  rw' : (R ++ W).Perm (a :: G.map (·.1))
  ins : ∀ e ∈ G, S e
  aro : ∀ r ∈ R, ∀ q, q < m → cont (s q) (f r) → q ∈ G.map (·.2)
/-- what holds of the owners, the one without a place, and the closed set -/
structure Base (f s : Nat → Rg) (n m a : Nat) (S : Nat × Nat → Prop) (D : List (Nat × Nat)) : Prop where
  nd1 : (D.map (·.1)).Nodup
  nd2 : (D.map (·.2)).Nodup
  lt : ∀ e ∈ D, e.1 < n
  an : a < n
  na : a ∉ D.map (·.1)
  sd : ∀ e, S e → e ∈ D
  own : ∀ q, q < m → (cont (s q) (f a) ∨ ∃ e, S e ∧ cont (s q) (f e.1)) → ∃ e, S e ∧ e.2 = q
section
variable {f s : Nat → Rg} {n m a : Nat} {S : Nat × Nat → Prop} {D : List (Nat × Nat)}
theorem Srch.start (b : Base f s n m a S D) : Srch f s n m a S D [] [a] D [] :=
  ⟨by simp, by simp, fun _ h => (List.not_mem_nil h).elim, fun _ h => (List.not_mem_nil h).elim⟩
theorem Srch.mem {R W : List Nat} {O G : List (Nat × Nat)} (b : Base f s n m a S D) (h : Srch f s n m a S D R W O G) {x : Nat} (hx : x ∈ R ++ W) : x = a ∨ ∃ e, S e ∧ e.1 = x := by
  rcases List.mem_cons.mp (h.rw'.mem_iff.mp hx) with e | e
  · exact .inl e
  · obtain ⟨g, hg, e⟩ := List.mem_map.mp e
    exact .inr ⟨g, h.ins g hg, e⟩
theorem Srch.lt {R W : List Nat} {O G : List (Nat × Nat)} (b : Base f s n m a S D) (h : Srch f s n m a S D R W O G) {x : Nat} (hx : x ∈ R ++ W) : x < n := by
  rcases h.mem b hx with rfl | ⟨e, he, rfl⟩
  · exact b.an
  · exact b.lt e (b.sd e he)
/-- within the walk over the second list: r is in hand, the places below j are looked at -/
structure Mid (f s : Nat → Rg) (n m a : Nat) (S : Nat × Nat → Prop) (D : List (Nat × Nat)) (R W : List Nat) (O G : List (Nat × Nat)) (r j : Nat) : Prop where
  per : (O ++ G).Perm D
  rw' : (R ++ r :: W).Perm (a :: G.map (·.1))
  ins : ∀ e ∈ G, S e
  aro : ∀ x ∈ R, ∀ q, q < m → cont (s q) (f x) → q ∈ G.map (·.2)
  cur : ∀ q, q < j → q < m → cont (s q) (f r) → q ∈ G.map (·.2)
theorem Srch.pop {R W : List Nat} {O G : List (Nat × Nat)} {r : Nat} (h : Srch f s n m a S D R (W ++ [r]) O G) : Mid f s n m a S D R W O G r 0 :=
  ⟨h.per, (List.Perm.append_left R (List.perm_append_singleton r W).symm).trans h.rw', h.ins, h.aro, fun _ z => absurd z (Nat.not_lt_zero _)⟩
theorem Mid.done {R W : List Nat} {O G : List (Nat × Nat)} {r j : Nat} (h : Mid f s n m a S D R W O G r j) (hj : m ≤ j) : Srch f s n m a S D (R ++ [r]) W O G :=
  ⟨h.per, by rw [List.append_assoc]; exact h.rw', h.ins, fun x hx q hq c => by
    rcases List.mem_append.mp hx with z | z
    · exact h.aro x z q hq c
    · rw [List.mem_singleton.mp z] at c
      exact h.cur q (by omega) hq c⟩
theorem Mid.inS (b : Base f s n m a S D) {R W : List Nat} {O G : List (Nat × Nat)} {r j q : Nat} (h : Mid f s n m a S D R W O G r j) (hq : q < m) (c : cont (s q) (f r)) : ∃ e, S e ∧ e.2 = q := by
  have hr : r ∈ R ++ r :: W := List.mem_append_right _ List.mem_cons_self
  refine b.own q hq ?_
  rcases List.mem_cons.mp (h.rw'.mem_iff.mp hr) with e | e
  · exact .inl (e ▸ c)
  · obtain ⟨g, hg, e⟩ := List.mem_map.mp e
    exact .inr ⟨g, h.ins g hg, by rw [e]; exact c⟩
/-- nothing of this place -/
theorem Mid.no {R W : List Nat} {O G : List (Nat × Nat)} {r j : Nat} (h : Mid f s n m a S D R W O G r j) (c : ¬ cont (s j) (f r)) : Mid f s n m a S D R W O G r (j + 1) :=
  ⟨h.per, h.rw', h.ins, h.aro, fun q hq hm c2 => by
    rcases Nat.lt_or_eq_of_le (Nat.le_of_lt_succ hq) with z | z
    · exact h.cur q z hm c2
    · exact absurd (z ▸ c2) c⟩
/-- the place is gone already -/
theorem Mid.gone (b : Base f s n m a S D) {R W : List Nat} {O G : List (Nat × Nat)} {r j : Nat} (h : Mid f s n m a S D R W O G r j) (nO : j ∉ O.map (·.2)) : Mid f s n m a S D R W O G r (j + 1) :=
  ⟨h.per, h.rw', h.ins, h.aro, fun q hq hm c2 => by
    rcases Nat.lt_or_eq_of_le (Nat.le_of_lt_succ hq) with z | z
    · exact h.cur q z hm c2
    · subst z
      obtain ⟨e, he, e2⟩ := h.inS b hm c2
      have : e ∈ O ++ G := h.per.mem_iff.mpr (b.sd e he)
      rcases List.mem_append.mp this with y | y
      · exact absurd (List.mem_map.mpr ⟨e, y, e2⟩) nO
      · exact List.mem_map.mpr ⟨e, y, e2⟩⟩
/-- the place is taken away, its owner waits -/
theorem Mid.take (b : Base f s n m a S D) {R W : List Nat} {O O' G : List (Nat × Nat)} {r j i : Nat} (h : Mid f s n m a S D R W O G r j) (hm : j < m) (c : cont (s j) (f r)) (hO : O.Perm ((i, j) :: O')) : Mid f s n m a S D R (W ++ [i]) O' (G ++ [(i, j)]) r (j + 1) := by
  refine ⟨?_, ?_, fun e he => ?_, fun x hx q hq c2 => ?_, fun q hq hm2 c2 => ?_⟩
  · refine List.Perm.trans ?_ h.per
    refine List.Perm.trans ?_ (List.Perm.append_right G hO.symm)
    refine List.Perm.trans (List.Perm.append_left O' (List.perm_append_singleton (i, j) G)) ?_
    exact List.perm_middle
  · rw [List.map_append]
    refine List.Perm.trans ?_ (List.Perm.append_right [i] h.rw')
    simp
  · rcases List.mem_append.mp he with z | z
    · exact h.ins e z
    · rw [List.mem_singleton.mp z]
      obtain ⟨g, hg, e2⟩ := h.inS b hm c
      have m1 : (i, j) ∈ D := h.per.mem_iff.mp (List.mem_append_left _ (hO.mem_iff.mpr List.mem_cons_self))
      have m2 := b.sd g hg
      have : g = (i, j) := by
        have nd := b.nd2
        obtain ⟨x, hx⟩ := List.getElem?_of_mem m1
        obtain ⟨y, hy⟩ := List.getElem?_of_mem m2
        have e1 : (D.map (·.2))[x]? = some j := by rw [List.getElem?_map, hx]; rfl
        have e3 : (D.map (·.2))[y]? = some j := by rw [List.getElem?_map, hy]; show some g.2 = some j; rw [e2]
        have hl := (List.getElem?_eq_some_iff.mp e1).1
        have xy : x = y := (List.getElem?_inj hl nd).mp (e1.trans e3.symm)
        subst xy
        rw [hx] at hy
        exact (Option.some.inj hy).symm
      rw [← this]
      exact hg
  · rw [List.map_append]
    exact List.mem_append_left _ (h.aro x hx q hq c2)
  · rw [List.map_append]
    rcases Nat.lt_or_eq_of_le (Nat.le_of_lt_succ hq) with z | z
    · exact List.mem_append_left _ (h.cur q z hm2 c2)
    · rw [z]
      exact List.mem_append_right _ List.mem_cons_self
/-- in the end the ranges found are around more of the first list than of the second -/
theorem Srch.end (b : Base f s n m a S D) {R : List Nat} {O G : List (Nat × Nat)} (h : Srch f s n m a S D R [] O G) : (plcs s m (R.map f)).length < (plcs f n (R.map f)).length := by
  have pR : R.Perm (a :: G.map (·.1)) := by simpa using h.rw'
  have gd : ∀ e ∈ G, e ∈ D := fun e he => b.sd e (h.ins e he)
  have ndR : R.Nodup := by
    refine pR.nodup_iff.mpr (List.nodup_cons.mpr ⟨fun z => ?_, ?_⟩)
    · obtain ⟨e, he, e2⟩ := List.mem_map.mp z
      exact b.na (List.mem_map.mpr ⟨e, gd e he, e2⟩)
    · have := (h.per.map (·.1)).nodup_iff.mpr b.nd1
      rw [List.map_append] at this
      exact (List.nodup_append.mp this).2.1
  have up : (plcs s m (R.map f)).length ≤ (G.map (·.2)).length := sub_len (plcs_nd _ _ _) fun q hq => by
    obtain ⟨h1, v, hv, c⟩ := plcs_mem.mp hq
    obtain ⟨r, hr, rfl⟩ := List.mem_map.mp hv
    exact h.aro r hr q h1 c
  have down : R.length ≤ (plcs f n (R.map f)).length := sub_len ndR fun i hi => by
    refine plcs_mem.mpr ⟨?_, f i, List.mem_map.mpr ⟨i, hi, rfl⟩, cont_refl _⟩
    exact h.lt b (List.mem_append_left _ hi)
  have l1 := pR.length_eq
  rw [List.length_cons, List.length_map] at l1
  rw [List.length_map] at up
  omega
end
end K58a

/-! changes of a load, as mathematics -/
namespace KM
/-- how often a letter differs from the one before, the first of all being a -/
def cf : Bool → List Bool → Nat
  | _, [] => 0
  | a, b :: r => (if a = b then 0 else 1) + cf b r
def cnt : List Bool → Nat
  | [] => 0
  | a :: r => cf a r
def cfO : Option Bool → List Bool → Nat
  | none, l => cnt l
  | some a, l => cf a l
/-- the letter of a reading: true for L -/
def lett (lo hi : Int) (r : Int) : Option Bool := if r ≤ lo then some true else if hi ≤ r then some false else none
def lets (lo hi : Int) (ns : List Int) : List Bool := ns.filterMap (lett lo hi)
def chg (ns : List Int) (lo hi : Int) : Nat := cnt (lets lo hi ns)
theorem cf_tri (a b : Bool) : ∀ l : List Bool, cf a l ≤ (if a = b then 0 else 1) + cf b l
  | [] => Nat.zero_le _
  | c :: r => by
    simp only [cf]
    cases a <;> cases b <;> cases c <;> simp <;> omega
theorem cf_mono : ∀ {l m : List Bool}, l.Sublist m → ∀ a, cf a l ≤ cf a m := by
  intro l m h
  induction h with
  | slnil => intro a; exact Nat.le_refl _
  | @cons l m b h ih =>
    intro a
    have h1 := cf_tri a b l
    have h2 := ih b
    simp only [cf]
    omega
  | @cons_cons l m b h ih =>
    intro a
    have h2 := ih b
    simp only [cf]
    omega
theorem cnt_mono : ∀ {l m : List Bool}, l.Sublist m → cnt l ≤ cnt m := by
  intro l m h
  induction h with
  | slnil => exact Nat.le_refl _
  | @cons l m b h ih =>
    cases m with
    | nil =>
      cases h
      exact Nat.le_refl _
    | cons d r =>
      show cnt l ≤ (if b = d then 0 else 1) + cf d r
      have : cnt (d :: r) = cf d r := rfl
      omega
  | @cons_cons l m b h ih => exact cf_mono h b
theorem lets_sub {lo hi lo2 hi2 : Int} (h1 : lo ≤ lo2) (h2 : hi2 ≤ hi) (h3 : lo2 < hi2) : ∀ ns : List Int, (lets lo hi ns).Sublist (lets lo2 hi2 ns)
  | [] => .slnil
  | r :: t => by
    have ih := lets_sub h1 h2 h3 t
    have key : lett lo hi r = none ∨ lett lo hi r = lett lo2 hi2 r := by
      unfold lett
      by_cases a : r ≤ lo
      · right
        rw [if_pos a, if_pos (by omega)]
      · rw [if_neg a]
        by_cases b : hi ≤ r
        · right
          rw [if_pos b, if_neg (by omega), if_pos (by omega)]
        · left
          rw [if_neg b]
    show ((r :: t).filterMap (lett lo hi)).Sublist ((r :: t).filterMap (lett lo2 hi2))
    rw [List.filterMap_cons, List.filterMap_cons]
    rcases key with e | e
    · rw [e]
      dsimp only
      cases lett lo2 hi2 r with
      | none => exact ih
      | some b => exact .cons _ ih
    · rw [← e]
      cases lett lo hi r with
      | none => exact ih
      | some b => exact .cons_cons _ ih
theorem chg_range {lo hi lo2 hi2 : Int} (h1 : lo ≤ lo2) (h2 : hi2 ≤ hi) (h3 : lo2 < hi2) (ns : List Int) : chg ns lo hi ≤ chg ns lo2 hi2 := cnt_mono (lets_sub h1 h2 h3 ns)
theorem chg_sub {l m : List Int} (h : l.Sublist m) (lo hi : Int) : chg l lo hi ≤ chg m lo hi := cnt_mono (h.filterMap _)
theorem chg_put (ns : List Int) (k : Nat) (v lo hi : Int) : chg ns lo hi ≤ chg (ns.take k ++ [v] ++ ns.drop k) lo hi := by
  refine chg_sub ?_ lo hi
  have e : ns = ns.take k ++ ns.drop k := (List.take_append_drop k ns).symm
  have h1 : (ns.take k).Sublist (ns.take k ++ [v]) := List.sublist_append_left _ _
  have h2 := h1.append (List.Sublist.refl (ns.drop k))
  rw [List.take_append_drop] at h2
  exact h2
theorem lets_drop {lo hi : Int} {ns : List Int} {i : Nat} {r : Int} (h : ns[i]? = some r) : lets lo hi (ns.drop i) = (match lett lo hi r with | none => lets lo hi (ns.drop (i + 1)) | some b => b :: lets lo hi (ns.drop (i + 1))) := by
  obtain ⟨h1, h2⟩ := List.getElem?_eq_some_iff.mp h
  rw [List.drop_eq_getElem_cons h1, h2]
  unfold lets
  rw [List.filterMap_cons]
  cases lett lo hi r <;> rfl
theorem lets_take {lo hi : Int} {ns : List Int} {i : Nat} {r : Int} (h : ns[i]? = some r) : lets lo hi (ns.take (i + 1)) = (match lett lo hi r with | none => lets lo hi (ns.take i) | some b => lets lo hi (ns.take i) ++ [b]) := by
  rw [List.take_add_one, h]
  unfold lets
  rw [List.filterMap_append]
  show _ ++ List.filterMap _ [r] = _
  rw [List.filterMap_cons]
  cases lett lo hi r with
  | none => simp
  | some b => rfl
theorem lets_len (lo hi : Int) (ns : List Int) : (lets lo hi ns).length ≤ ns.length := List.length_filterMap_le _ _
/-- the number of turns of a zip with itself, one on, whose two differ -/
theorem cnt_drop {l : List Bool} {i : Nat} {a b : Bool} (h1 : l[i]? = some a) (h2 : l[i + 1]? = some b) : cnt (l.drop i) = (if a = b then 0 else 1) + cnt (l.drop (i + 1)) := by
  obtain ⟨k1, e1⟩ := List.getElem?_eq_some_iff.mp h1
  obtain ⟨k2, e2⟩ := List.getElem?_eq_some_iff.mp h2
  rw [List.drop_eq_getElem_cons k1, e1, List.drop_eq_getElem_cons k2, e2]
  rfl
theorem cnt_end {l : List Bool} {i : Nat} (h : l.length ≤ i + 1) : cnt (l.drop i) = 0 := by
  have : (l.drop i).length ≤ 1 := by rw [List.length_drop]; omega
  match l.drop i, this with
  | [], _ => rfl
  | [_], _ => rfl
end KM

/-! changes decide the half-cycles, as mathematics -/
namespace RC
open KM PM RM RN
/-- a range holds another one -/
def hl (lo hi : Int) (r : Int × Int) : Bool := decide (r.1 ≤ lo) && decide (hi ≤ r.2)
def nh (lo hi : Int) (rs : List (Int × Int)) : Nat := rs.countP (hl lo hi)
def b1 (b : Bool) : Nat := if b = true then 1 else 0
theorem nh_cons (lo hi : Int) (r : Int × Int) (rs : List (Int × Int)) : nh lo hi (r :: rs) = b1 (hl lo hi r) + nh lo hi rs := by
  unfold nh b1
  rw [List.countP_cons]
  omega
theorem nh_app (lo hi : Int) (rs ss : List (Int × Int)) : nh lo hi (rs ++ ss) = nh lo hi rs + nh lo hi ss := List.countP_append
theorem nh_perm {lo hi : Int} {rs ss : List (Int × Int)} (h : rs.Perm ss) : nh lo hi rs = nh lo hi ss := h.countP_eq _
/-- a letter is read, some before -/
def cl (lo hi : Int) (o : Option Bool) (ns : List Int) : Nat := cfO o (lets lo hi ns)
def d2 (o : Option Bool) (b : Bool) : Nat := match o with
  | none => 0
  | some a => if a = b then 0 else 1
theorem cl_nil (lo hi : Int) (o : Option Bool) : cl lo hi o [] = 0 := by cases o <;> rfl
theorem cl_cons (lo hi : Int) (o : Option Bool) (x : Int) (ns : List Int) : cl lo hi o (x :: ns) = match lett lo hi x with
    | none => cl lo hi o ns
    | some b => d2 o b + cl lo hi (some b) ns := by
  unfold cl lets
  rw [List.filterMap_cons]
  cases lett lo hi x with
  | none => rfl
  | some b =>
    cases o with
    | none => show cf b _ = 0 + cf b _; omega
    | some a => rfl
theorem lett_lo {lo hi x : Int} (h : x ≤ lo) : lett lo hi x = some true := if_pos h
theorem lett_hi {lo hi x : Int} (h0 : lo < hi) (h : hi ≤ x) : lett lo hi x = some false := by unfold lett; rw [if_neg (by omega), if_pos h]
theorem lett_no {lo hi x : Int} (h1 : lo < x) (h2 : x < hi) : lett lo hi x = none := by unfold lett; rw [if_neg (by omega), if_neg (by omega)]
theorem lett3 (lo hi x : Int) (h0 : lo < hi) : (x ≤ lo ∧ lett lo hi x = some true) ∨ (hi ≤ x ∧ lett lo hi x = some false) ∨ (lo < x ∧ x < hi ∧ lett lo hi x = none) := by
  by_cases a : x ≤ lo
  · exact .inl ⟨a, lett_lo a⟩
  · by_cases b : hi ≤ x
    · exact .inr (.inl ⟨b, lett_hi h0 b⟩)
    · exact .inr (.inr ⟨by omega, by omega, lett_no (by omega) (by omega)⟩)
theorem hl_iff {lo hi : Int} {a b : Int} : hl lo hi (a, b) = decide (a ≤ lo ∧ hi ≤ b) := by
  unfold hl
  by_cases h1 : a ≤ lo <;> by_cases h2 : hi ≤ b <;> simp [h1, h2]
theorem four_up {lo hi a b c d : Int} (h0 : lo < hi) (post : List Int) (o : Option Bool) (h1 : a ≤ c) (h2 : c < b) (h3 : b ≤ d) : cl lo hi o (a :: b :: c :: d :: post) = cl lo hi o (a :: d :: post) + 2 * b1 (hl lo hi (c, b)) := by
  rw [hl_iff]
  simp only [cl_cons]
  rcases lett3 lo hi a h0 with ⟨x1, e1⟩ | ⟨x1, e1⟩ | ⟨x1, y1, e1⟩ <;> rcases lett3 lo hi b h0 with ⟨x2, e2⟩ | ⟨x2, e2⟩ | ⟨x2, y2, e2⟩ <;> rcases lett3 lo hi c h0 with ⟨x3, e3⟩ | ⟨x3, e3⟩ | ⟨x3, y3, e3⟩ <;> rcases lett3 lo hi d h0 with ⟨x4, e4⟩ | ⟨x4, e4⟩ | ⟨x4, y4, e4⟩ <;> first
    | (exfalso; omega)
    | (rw [decide_eq_true (by omega), e1, e2, e3, e4]; simp only [d2, b1]; cases o with
        | none => simp <;> omega
        | some p => cases p <;> simp <;> omega)
    | (rw [decide_eq_false (by omega), e1, e2, e3, e4]; simp only [d2, b1]; cases o with
        | none => simp
        | some p => cases p <;> simp)
theorem four_down {lo hi a b c d : Int} (h0 : lo < hi) (post : List Int) (o : Option Bool) (h1 : c ≤ a) (h2 : b < c) (h3 : d ≤ b) : cl lo hi o (a :: b :: c :: d :: post) = cl lo hi o (a :: d :: post) + 2 * b1 (hl lo hi (b, c)) := by
  rw [hl_iff]
  simp only [cl_cons]
  rcases lett3 lo hi a h0 with ⟨x1, e1⟩ | ⟨x1, e1⟩ | ⟨x1, y1, e1⟩ <;> rcases lett3 lo hi b h0 with ⟨x2, e2⟩ | ⟨x2, e2⟩ | ⟨x2, y2, e2⟩ <;> rcases lett3 lo hi c h0 with ⟨x3, e3⟩ | ⟨x3, e3⟩ | ⟨x3, y3, e3⟩ <;> rcases lett3 lo hi d h0 with ⟨x4, e4⟩ | ⟨x4, e4⟩ | ⟨x4, y4, e4⟩ <;> first
    | (exfalso; omega)
    | (rw [decide_eq_true (by omega), e1, e2, e3, e4]; simp only [d2, b1]; cases o with
        | none => simp <;> omega
        | some p => cases p <;> simp <;> omega)
    | (rw [decide_eq_false (by omega), e1, e2, e3, e4]; simp only [d2, b1]; cases o with
        | none => simp
        | some p => cases p <;> simp)
theorem cl_step {lo hi : Int} (h0 : lo < hi) {p q : List Int} {c : Int × Int} (h : Step p c q) : ZZ p → ∀ o, cl lo hi o p = cl lo hi o q + 2 * b1 (hl lo hi c) := by
  induction h with
  | @here a b c d post t =>
    intro z o
    rcases (taken_iff z.four).mp t with ⟨x1, x2, x3, x4, x5⟩ | ⟨x1, x2, x3, x4, x5⟩
    · rw [rg_down x2]; exact four_up h0 post o x4 x2 x5
    · rw [rg_up x2]; exact four_down h0 post o x4 x2 x5
  | @there x p q cy s ih =>
    intro z o
    rw [cl_cons, cl_cons]
    cases lett lo hi x with
    | none => exact ih z.tail o
    | some b =>
      have := ih z.tail (some b)
      show d2 o b + cl lo hi (some b) p = d2 o b + cl lo hi (some b) q + _
      omega
theorem cl_run {lo hi : Int} (h0 : lo < hi) {p q : List Int} {cs : List (Int × Int)} (h : Run p cs q) : ZZ p → ∀ o, cl lo hi o p = cl lo hi o q + 2 * nh lo hi cs := by
  induction h with
  | nil p => intro _ o; rfl
  | cons s _ ih =>
    intro z o
    rw [cl_step h0 s z o, ih (ZZ.step s z) o, nh_cons]
    omega
/-! the load and its turning points -/
theorem cl_same {lo hi : Int} (o : Option Bool) (a : Int) (l : List Int) : cl lo hi o (a :: a :: l) = cl lo hi o (a :: l) := by
  simp only [cl_cons]
  cases lett lo hi a with
  | none => rfl
  | some b => simp [d2]
theorem cl_btw {lo hi : Int} (h0 : lo < hi) (o : Option Bool) {b a r : Int} (l : List Int) (h : Btw a b r) : cl lo hi o (b :: a :: r :: l) = cl lo hi o (b :: r :: l) := by
  simp only [cl_cons]
  rcases lett3 lo hi a h0 with ⟨x1, e1⟩ | ⟨x1, e1⟩ | ⟨x1, y1, e1⟩ <;> rcases lett3 lo hi b h0 with ⟨x2, e2⟩ | ⟨x2, e2⟩ | ⟨x2, y2, e2⟩ <;> rcases lett3 lo hi r h0 with ⟨x3, e3⟩ | ⟨x3, e3⟩ | ⟨x3, y3, e3⟩ <;> first
    | (exfalso; omega)
    | (rw [e1, e2, e3]; done)
    | (rw [e1, e2, e3]; cases o with
        | none => simp [d2]
        | some p => cases p <;> simp [d2])
theorem cl_tq {lo hi : Int} (h0 : lo < hi) : ∀ (l : List Int) (o : Option Bool) (b a : Int), cl lo hi o (b :: tq b a l) = cl lo hi o (b :: a :: l)
  | [], _, _, _ => rfl
  | r :: l, o, b, a => by
    simp only [tq]
    by_cases e : a = r
    · rw [if_pos e, cl_tq h0 l o b a, ← e, cl_cons lo hi o b (a :: a :: l), cl_cons lo hi o b (a :: l)]
      cases lett lo hi b with
      | none => exact (cl_same _ _ _).symm
      | some x => exact congrArg _ (cl_same _ _ _).symm
    · rw [if_neg e]
      by_cases bt : Btw a b r
      · rw [if_pos bt, cl_tq h0 l o b r, cl_btw h0 o l bt]
      · rw [if_neg bt, cl_cons lo hi o b (a :: tq a r l), cl_cons lo hi o b (a :: r :: l)]
        cases lett lo hi b with
        | none => exact cl_tq h0 l o a r
        | some x => exact congrArg (d2 o x + ·) (cl_tq h0 l (some x) a r)
theorem cl_ts {lo hi : Int} (h0 : lo < hi) : ∀ (l : List Int) (o : Option Bool) (a : Int), cl lo hi o (ts a l) = cl lo hi o (a :: l)
  | [], _, _ => rfl
  | r :: l, o, a => by
    simp only [ts]
    by_cases e : a = r
    · rw [if_pos e, cl_ts h0 l o a, ← e, cl_same]
    · rw [if_neg e, cl_tq h0 l o a r]
theorem cl_tp {lo hi : Int} (h0 : lo < hi) (ns : List Int) : cl lo hi none (tp ns) = chg ns lo hi := by
  cases ns with
  | nil => rfl
  | cons a l => exact cl_ts h0 l none a
/-! the rest: swings that grow and then shrink -/
def In (u v : Int) (ps : List Int) : Prop := ∀ x ∈ ps, u ≤ x ∧ x ≤ v
/-- each swing within the one before -/
def Con : List Int → Prop
  | x :: y :: z :: r => ((y < x ∧ y < z ∧ z ≤ x) ∨ (x < y ∧ z < y ∧ x ≤ z)) ∧ Con (y :: z :: r)
  | _ => True
theorem Con.inside : ∀ {r : List Int} {x y : Int}, Con (x :: y :: r) → x ≠ y → In (if x < y then x else y) (if x < y then y else x) (x :: y :: r)
  | [], x, y, _, h => by
    intro w hw
    rcases List.mem_cons.mp hw with e | hw
    · subst e; split <;> omega
    · rcases List.mem_cons.mp hw with e | hw
      · subst e; split <;> omega
      · exact absurd hw (List.not_mem_nil)
  | z :: r, x, y, c, h => by
    have ih := Con.inside c.2 (by have := c.1; omega)
    intro w hw
    have c1 := c.1
    rcases List.mem_cons.mp hw with e | hw
    · subst e; split <;> omega
    · have := ih w hw
      by_cases e1 : y < z
      · rw [if_pos e1, if_pos e1] at this
        rw [if_neg (by omega), if_neg (by omega)]
        omega
      · rw [if_neg e1, if_neg e1] at this
        rw [if_pos (by omega), if_pos (by omega)]
        omega
theorem nf_con : ∀ {r : List Int} {x y z : Int}, ZZ (x :: y :: z :: r) → NF (x :: y :: z :: r) → ((y < x ∧ z ≤ x) ∨ (x < y ∧ x ≤ z)) → Con (x :: y :: z :: r)
  | [], x, y, z, zz, _, h => ⟨by have := zz.1; omega, trivial⟩
  | w :: r, x, y, z, zz, n, h => by
    have z1 := zz.1
    have z2 := zz.2.1
    refine ⟨by omega, nf_con zz.2 (fun c q s => n _ _ (.there s)) ?_⟩
    have nt : ¬ Taken x y z w := fun t => n _ _ (.here t)
    rw [taken_iff zz.four] at nt
    omega
theorem one_letter {lo hi : Int} {b : Bool} : ∀ (l : List Int) (o : Option Bool), (o = none ∨ o = some b) → (∀ x ∈ l, lett lo hi x = none ∨ lett lo hi x = some b) → cl lo hi o l = 0
  | [], o, _, _ => cl_nil lo hi o
  | x :: l, o, h1, h2 => by
    have ih := fun o h => one_letter l o h (fun x hx => h2 x (List.mem_cons_of_mem _ hx))
    rw [cl_cons]
    rcases h2 x List.mem_cons_self with e | e
    · rw [e]; exact ih o h1
    · rw [e]
      show d2 o b + cl lo hi (some b) l = 0
      rw [ih _ (.inr rfl)]
      rcases h1 with e | e
      · rw [e]; rfl
      · rw [e]; simp [d2]
theorem con_one {lo hi x y : Int} (h0 : lo < hi) {r : List Int} (h : In (if x < y then x else y) (if x < y then y else x) (x :: y :: r)) (ne : x ≠ y) : cl lo hi none (x :: y :: r) = b1 (hl lo hi (rg x y)) + cl lo hi none (y :: r) := by
  have out : ∀ u v, u < v → In u v (x :: y :: r) → hl lo hi (u, v) = false → cl lo hi none (x :: y :: r) = 0 ∧ cl lo hi none (y :: r) = 0 := by
    intro u v huv hin hn
    rw [hl_iff] at hn
    have hn := of_decide_eq_false hn
    by_cases a : u ≤ lo
    · have hb : v < hi := by omega
      have key : ∀ w ∈ x :: y :: r, lett lo hi w = none ∨ lett lo hi w = some true := fun w hw => by
        have := hin w hw
        rcases lett3 lo hi w h0 with ⟨_, e⟩ | ⟨z, e⟩ | ⟨_, _, e⟩
        · exact .inr e
        · omega
        · exact .inl e
      exact ⟨one_letter _ _ (.inl rfl) key, one_letter _ _ (.inl rfl) fun w hw => key w (List.mem_cons_of_mem _ hw)⟩
    · have key : ∀ w ∈ x :: y :: r, lett lo hi w = none ∨ lett lo hi w = some false := fun w hw => by
        have := hin w hw
        rcases lett3 lo hi w h0 with ⟨z, e⟩ | ⟨z, e⟩ | ⟨_, _, e⟩
        · omega
        · exact .inr e
        · exact .inl e
      exact ⟨one_letter _ _ (.inl rfl) key, one_letter _ _ (.inl rfl) fun w hw => key w (List.mem_cons_of_mem _ hw)⟩
  rcases (show x < y ∨ y < x by omega) with h1 | h1
  · rw [if_pos h1, if_pos h1] at h
    rw [rg_up h1]
    cases e : hl lo hi (x, y) with
    | false => obtain ⟨e1, e2⟩ := out x y h1 h e; rw [e1, e2]; rfl
    | true =>
      rw [hl_iff] at e
      have e := of_decide_eq_true e
      rw [cl_cons lo hi none x, cl_cons lo hi none y, lett_lo e.1, lett_hi h0 e.2]
      show d2 none true + cl lo hi (some true) (y :: r) = b1 true + (d2 none false + cl lo hi (some false) r)
      rw [cl_cons, lett_hi h0 e.2]
      simp [d2, b1]
  · rw [if_neg (by omega), if_neg (by omega)] at h
    rw [rg_down h1]
    cases e : hl lo hi (y, x) with
    | false => obtain ⟨e1, e2⟩ := out y x h1 h e; rw [e1, e2]; rfl
    | true =>
      rw [hl_iff] at e
      have e := of_decide_eq_true e
      rw [cl_cons lo hi none x, cl_cons lo hi none y, lett_lo e.1, lett_hi h0 e.2]
      show d2 none false + cl lo hi (some false) (y :: r) = b1 true + (d2 none true + cl lo hi (some true) r)
      rw [cl_cons, lett_lo e.1]
      simp [d2, b1]
theorem wide_one {lo hi x y z : Int} (h0 : lo < hi) {r : List Int} (h : (y < x ∧ x < z) ∨ (x < y ∧ z < x)) : cl lo hi none (x :: y :: z :: r) = b1 (hl lo hi (rg x y)) + cl lo hi none (y :: z :: r) := by
  rcases h with ⟨h1, h2⟩ | ⟨h1, h2⟩
  · rw [rg_down h1, hl_iff]
    simp only [cl_cons]
    rcases lett3 lo hi x h0 with ⟨x1, e1⟩ | ⟨x1, e1⟩ | ⟨x1, y1, e1⟩ <;> rcases lett3 lo hi y h0 with ⟨x2, e2⟩ | ⟨x2, e2⟩ | ⟨x2, y2, e2⟩ <;> rcases lett3 lo hi z h0 with ⟨x3, e3⟩ | ⟨x3, e3⟩ | ⟨x3, y3, e3⟩ <;> first
      | (exfalso; omega)
      | (rw [decide_eq_true (by omega), e1, e2, e3]; simp [d2, b1]; done)
      | (rw [decide_eq_false (by omega), e1, e2, e3]; simp [d2, b1]; done)
  · rw [rg_up h1, hl_iff]
    simp only [cl_cons]
    rcases lett3 lo hi x h0 with ⟨x1, e1⟩ | ⟨x1, e1⟩ | ⟨x1, y1, e1⟩ <;> rcases lett3 lo hi y h0 with ⟨x2, e2⟩ | ⟨x2, e2⟩ | ⟨x2, y2, e2⟩ <;> rcases lett3 lo hi z h0 with ⟨x3, e3⟩ | ⟨x3, e3⟩ | ⟨x3, y3, e3⟩ <;> first
      | (exfalso; omega)
      | (rw [decide_eq_true (by omega), e1, e2, e3]; simp [d2, b1]; done)
      | (rw [decide_eq_false (by omega), e1, e2, e3]; simp [d2, b1]; done)
theorem nf_nh {lo hi : Int} (h0 : lo < hi) : ∀ (ps : List Int), ZZ ps → NF ps → cl lo hi none ps = nh lo hi (sw ps)
  | [], _, _ => rfl
  | [x], _, _ => by
    rw [cl_cons]
    cases lett lo hi x <;> rfl
  | [x, y], zz, _ => by
    have zz : x ≠ y := zz
    show _ = nh lo hi [rg x y]
    rw [nh_cons, con_one h0 (Con.inside (r := []) (x := x) (y := y) (show Con [x, y] from trivial) zz) zz]
    show _ + cl lo hi none [y] = _ + 0
    rw [cl_cons]
    cases lett lo hi y <;> rfl
  | x :: y :: z :: r, zz, n => by
    have ih := nf_nh h0 (y :: z :: r) zz.2 (fun c q s => n _ _ (.there s))
    show _ = nh lo hi (rg x y :: sw (y :: z :: r))
    rw [nh_cons, ← ih]
    have z1 := zz.1
    by_cases h : (y < x ∧ z ≤ x) ∨ (x < y ∧ x ≤ z)
    · exact con_one h0 (Con.inside (nf_con zz n h) (by omega)) (by omega)
    · exact wide_one h0 (by omega)
/-- the changes of a load are the half-cycles that hold the range -/
theorem chg_count {lo hi : Int} (h0 : lo < hi) {ns rs : List Int} {cs : List (Int × Int)} (h : Run (tp ns) cs rs) (n : NF rs) : chg ns lo hi = 2 * nh lo hi cs + nh lo hi (sw rs) := by
  rw [← cl_tp h0, cl_run h0 h (tp_zz ns), nf_nh h0 rs (h.zz (tp_zz ns)) n]
  omega
/-! just a range: the second difference -/
theorem just_one (lo hi : Int) (r : Int × Int) : b1 (decide (r = (lo, hi))) + b1 (hl (lo - 1) hi r) + b1 (hl lo (hi + 1) r) = b1 (hl lo hi r) + b1 (hl (lo - 1) (hi + 1) r) := by
  obtain ⟨u, v⟩ := r
  simp only [hl_iff]
  have e : decide ((u, v) = (lo, hi)) = decide (u = lo ∧ v = hi) := by simp
  rw [e]
  simp only [b1, decide_eq_true_eq]
  repeat' split
  all_goals omega
theorem just {lo hi : Int} : ∀ rs : List (Int × Int), rs.count (lo, hi) + nh (lo - 1) hi rs + nh lo (hi + 1) rs = nh lo hi rs + nh (lo - 1) (hi + 1) rs
  | [] => rfl
  | r :: rs => by
    have ih := just (lo := lo) (hi := hi) rs
    have h1 := just_one lo hi r
    rw [nh_cons, nh_cons, nh_cons, nh_cons, List.count_cons]
    have e : (if (r == (lo, hi)) = true then 1 else 0) = b1 (decide (r = (lo, hi))) := by
      unfold b1
      by_cases z : r = (lo, hi)
      · simp [z]
      · simp [z]
    rw [e]
    omega
end RC

/-! the half-cycles of two loads are the same exactly if their changes are -/
namespace RE
open KM PM RM RN RC
/-- of a load: its half-cycles, sorted -/
structure Hc (ns : List Int) (es : List (Int × Int)) : Prop where
  ex : ∃ cs ds rs, Run (tp ns) cs rs ∧ NF rs ∧ ds.Perm cs ∧ es.Perm (ds ++ ds ++ sw rs)
  srt : es.Pairwise Le
theorem Hc.chg {ns : List Int} {es : List (Int × Int)} (h : Hc ns es) {lo hi : Int} (h0 : lo < hi) : chg ns lo hi = nh lo hi es := by
  obtain ⟨cs, ds, rs, run, nf, p1, p2⟩ := h.ex
  rw [chg_count h0 run nf, nh_perm p2, nh_app, nh_app, nh_perm p1]
  omega
/-- every half-cycle lies within the readings -/
def InR (u v : Int) (r : Int × Int) : Prop := u ≤ r.1 ∧ r.1 < r.2 ∧ r.2 ≤ v
theorem rg_in {u v a b : Int} (ha : u ≤ a ∧ a ≤ v) (hb : u ≤ b ∧ b ≤ v) (ne : a ≠ b) : InR u v (rg a b) := by
  rcases (show a < b ∨ b < a by omega) with h | h
  · rw [rg_up h]; exact ⟨ha.1, h, hb.2⟩
  · rw [rg_down h]; exact ⟨hb.1, h, ha.2⟩
theorem step_in {u v : Int} {p q : List Int} {c : Int × Int} (h : Step p c q) : ZZ p → (∀ x ∈ p, u ≤ x ∧ x ≤ v) → InR u v c ∧ ∀ x ∈ q, u ≤ x ∧ x ≤ v := by
  induction h with
  | @here a b c d post t =>
    intro z hb
    have z1 := z.1
    refine ⟨rg_in (hb b (by simp)) (hb c (by simp)) (by omega), fun x hx => ?_⟩
    rcases List.mem_cons.mp hx with e | hx
    · exact hb x (by simp [e])
    · rcases List.mem_cons.mp hx with e | hx
      · exact hb x (by simp [e])
      · exact hb x (by simp [hx])
  | @there x p q cy s ih =>
    intro z hb
    obtain ⟨h1, h2⟩ := ih z.tail fun y hy => hb y (List.mem_cons_of_mem _ hy)
    refine ⟨h1, fun y hy => ?_⟩
    rcases List.mem_cons.mp hy with e | hy
    · exact hb y (by simp [e])
    · exact h2 y hy
theorem run_in {u v : Int} {p q : List Int} {cs : List (Int × Int)} (h : Run p cs q) : ZZ p → (∀ x ∈ p, u ≤ x ∧ x ≤ v) → (∀ c ∈ cs, InR u v c) ∧ ∀ x ∈ q, u ≤ x ∧ x ≤ v := by
  induction h with
  | nil p => exact fun _ hb => ⟨fun _ z => (List.not_mem_nil z).elim, hb⟩
  | cons s _ ih =>
    intro z hb
    obtain ⟨h1, h2⟩ := step_in s z hb
    obtain ⟨h3, h4⟩ := ih (ZZ.step s z) h2
    refine ⟨fun c hc => ?_, h4⟩
    rcases List.mem_cons.mp hc with e | hc
    · rw [e]; exact h1
    · exact h3 c hc
theorem sw_in {u v : Int} : ∀ {ps : List Int}, ZZ ps → (∀ x ∈ ps, u ≤ x ∧ x ≤ v) → ∀ r ∈ sw ps, InR u v r
  | [], _, _, r, h => by simp [sw] at h
  | [_], _, _, r, h => by simp [sw] at h
  | x :: y :: l, z, hb, r, h => by
    rcases List.mem_cons.mp (show r ∈ rg x y :: sw (y :: l) from h) with e | h
    · rw [e]; exact rg_in (hb x (by simp)) (hb y (by simp)) (zz_cons z)
    · exact sw_in z.tail (fun w hw => hb w (List.mem_cons_of_mem _ hw)) r h
theorem Hc.inr {u v : Int} {ns : List Int} {es : List (Int × Int)} (h : Hc ns es) (hb : ∀ x ∈ ns, u ≤ x ∧ x ≤ v) : ∀ r ∈ es, InR u v r := by
  obtain ⟨cs, ds, rs, run, nf, p1, p2⟩ := h.ex
  obtain ⟨h1, h2⟩ := run_in run (tp_zz ns) fun x hx => hb x (tp_mem hx)
  intro r hr
  rcases List.mem_append.mp (p2.mem_iff.mp hr) with z | z
  · rcases List.mem_append.mp z with z | z
    · exact h1 r (p1.mem_iff.mp z)
    · exact h1 r (p1.mem_iff.mp z)
  · exact sw_in (run.zz (tp_zz ns)) h2 r z
/-- two loads within u..v -/
theorem same_iff {u v : Int} {ns ms : List Int} {es fs : List (Int × Int)} (h : Hc ns es) (g : Hc ms fs) (hb : ∀ x ∈ ns, u ≤ x ∧ x ≤ v) (gb : ∀ x ∈ ms, u ≤ x ∧ x ≤ v) :
    es = fs ↔ ∀ lo hi : Int, u - 1 ≤ lo → lo < hi → hi ≤ v + 1 → KM.chg ns lo hi = KM.chg ms lo hi := by
  constructor
  · intro e lo hi _ h0 _
    rw [h.chg h0, g.chg h0, e]
  · intro e
    refine sorted_same (List.perm_iff_count.mpr fun r => ?_) h.srt g.srt
    obtain ⟨lo, hi⟩ := r
    by_cases z : u ≤ lo ∧ lo < hi ∧ hi ≤ v
    · have j1 := just (lo := lo) (hi := hi) es
      have j2 := just (lo := lo) (hi := hi) fs
      have k : ∀ a b : Int, u - 1 ≤ a → a < b → b ≤ v + 1 → nh a b es = nh a b fs := fun a b h1 h2 h3 => by rw [← h.chg h2, ← g.chg h2, e a b h1 h2 h3]
      have k1 := k lo hi (by omega) (by omega) (by omega)
      have k2 := k (lo - 1) hi (by omega) (by omega) (by omega)
      have k3 := k lo (hi + 1) (by omega) (by omega) (by omega)
      have k4 := k (lo - 1) (hi + 1) (by omega) (by omega) (by omega)
      omega
    · rw [List.count_eq_zero.mpr fun m => z (show u ≤ lo ∧ lo < hi ∧ hi ≤ v from h.inr hb (lo, hi) m), List.count_eq_zero.mpr fun m => z (show u ≤ lo ∧ lo < hi ∧ hi ≤ v from g.inr gb (lo, hi) m)]
end RE

/-! loads turned round, mapped, repeated, thinned: mathematics -/
namespace K9
open KM PM RM RN RC RE
/-! ### turning points of a load turned round -/
theorem tq_same : ∀ (pre : List Int) (p q x : Int) (post : List Int), tq p q (pre ++ x :: x :: post) = tq p q (pre ++ x :: post)
  | [], p, q, x, post => by
    show tq p q (x :: x :: post) = tq p q (x :: post)
    simp only [tq]
    by_cases e : q = x
    · subst e
      simp only [if_true]
    · rw [if_neg e, if_neg e]
      simp only [if_true]
  | y :: pre, p, q, x, post => by
    show tq p q (y :: (pre ++ x :: x :: post)) = tq p q (y :: (pre ++ x :: post))
    simp only [tq, tq_same pre]
theorem tq_btw0 {p b a r : Int} (post : List Int) (h : Btw a b r) : tq p b (a :: r :: post) = tq p b (r :: post) := by
  have h1 : ¬ b = a := by omega
  have h2 : ¬ b = r := by omega
  have h3 : ¬ a = r := by omega
  simp only [tq]
  rw [if_neg h1, if_neg h2]
  by_cases c : Btw b p a
  · rw [if_pos c, if_neg h3, if_pos (show Btw a p r by omega), if_pos (show Btw b p r by omega)]
  · rw [if_neg c, if_neg (show ¬ Btw b p r by omega)]
    rw [if_neg h3, if_pos h]
theorem tq_btw : ∀ (pre : List Int) (p q b a r : Int) (post : List Int), Btw a b r → tq p q (pre ++ b :: a :: r :: post) = tq p q (pre ++ b :: r :: post)
  | [], p, q, b, a, r, post, h => by
    show tq p q (b :: a :: r :: post) = tq p q (b :: r :: post)
    have k : ∀ s, tq s b (a :: r :: post) = tq s b (r :: post) := fun s => tq_btw0 post h
    rw [tq, k, k]
    rw [tq.eq_2 p q b (r :: post)]
    by_cases e : q = b
    · rw [if_pos e, if_pos e]
      subst e
      exact k p
    · rw [if_neg e, if_neg e]
  | y :: pre, p, q, b, a, r, post, h => by
    show tq p q (y :: (pre ++ b :: a :: r :: post)) = tq p q (y :: (pre ++ b :: r :: post))
    simp only [tq, tq_btw pre _ _ b a r post h]
theorem ts_same : ∀ (pre : List Int) (q x : Int) (post : List Int), ts q (pre ++ x :: x :: post) = ts q (pre ++ x :: post)
  | [], q, x, post => by
    show ts q (x :: x :: post) = ts q (x :: post)
    simp only [ts]
    by_cases e : q = x
    · subst e
      simp only [if_true]
    · rw [if_neg e, if_neg e]
      simp only [tq, if_true]
  | y :: pre, q, x, post => by
    show ts q (y :: (pre ++ x :: x :: post)) = ts q (y :: (pre ++ x :: post))
    simp only [ts, ts_same pre, tq_same pre]
theorem ts_btw0 {b a r : Int} (post : List Int) (h : Btw a b r) : ts b (a :: r :: post) = ts b (r :: post) := by
  simp only [ts]
  rw [if_neg (show ¬ b = a by omega), if_neg (show ¬ b = r by omega)]
  simp only [tq]
  rw [if_neg (show ¬ a = r by omega), if_pos h]
theorem ts_btw : ∀ (pre : List Int) (q b a r : Int) (post : List Int), Btw a b r → ts q (pre ++ b :: a :: r :: post) = ts q (pre ++ b :: r :: post)
  | [], q, b, a, r, post, h => by
    show ts q (b :: a :: r :: post) = ts q (b :: r :: post)
    rw [ts, tq_btw0 post h]
    rw [ts.eq_2 q b (r :: post)]
    by_cases e : q = b
    · rw [if_pos e, if_pos e]
      subst e
      exact ts_btw0 post h
    · rw [if_neg e, if_neg e]
  | y :: pre, q, b, a, r, post, h => by
    show ts q (y :: (pre ++ b :: a :: r :: post)) = ts q (y :: (pre ++ b :: r :: post))
    simp only [ts, ts_btw pre _ b a r post h, tq_btw pre _ _ b a r post h]
theorem tp_same (pre : List Int) (x : Int) (post : List Int) : tp (pre ++ x :: x :: post) = tp (pre ++ x :: post) := by
  cases pre with
  | nil =>
    show ts x (x :: post) = ts x post
    simp only [ts, if_true]
  | cons y pre => exact ts_same pre y x post
theorem tp_btw (pre : List Int) {b a r : Int} (post : List Int) (h : Btw a b r) : tp (pre ++ b :: a :: r :: post) = tp (pre ++ b :: r :: post) := by
  cases pre with
  | nil => exact ts_btw0 post h
  | cons y pre => exact ts_btw pre y b a r post h
/-- a reading left out that is no turning point -/
inductive Red : List Int → List Int → Prop
  | nil (l : List Int) : Red l l
  | same (pre : List Int) (x : Int) (post : List Int) {m : List Int} : Red (pre ++ x :: post) m → Red (pre ++ x :: x :: post) m
  | btw (pre : List Int) {b a r : Int} (post : List Int) {m : List Int} : Btw a b r → Red (pre ++ b :: r :: post) m → Red (pre ++ b :: a :: r :: post) m
theorem Red.tp {l m : List Int} (h : Red l m) : tp l = tp m := by
  induction h with
  | nil l => rfl
  | same pre x post _ ih => rw [tp_same, ih]
  | btw pre post hb _ ih => rw [tp_btw pre post hb, ih]
theorem Red.cons {l m : List Int} (h : Red l m) (y : Int) : Red (y :: l) (y :: m) := by
  induction h with
  | nil l => exact .nil _
  | same pre x post _ ih => exact .same (y :: pre) x post ih
  | btw pre post hb _ ih => exact .btw (y :: pre) post hb ih
theorem Red.trans {l m n : List Int} (h : Red l m) (g : Red m n) : Red l n := by
  induction h with
  | nil l => exact g
  | same pre x post _ ih => exact .same pre x post (ih g)
  | btw pre post hb _ ih => exact .btw pre post hb (ih g)
theorem Red.rev {l m : List Int} (h : Red l m) : Red l.reverse m.reverse := by
  induction h with
  | nil l => exact .nil _
  | same pre x post _ ih =>
    have e1 : (pre ++ x :: x :: post).reverse = post.reverse ++ x :: x :: pre.reverse := by simp
    have e2 : (pre ++ x :: post).reverse = post.reverse ++ x :: pre.reverse := by simp
    rw [e1]
    rw [e2] at ih
    exact .same _ x _ ih
  | @btw pre b a r post m hb _ ih =>
    have e1 : (pre ++ b :: a :: r :: post).reverse = post.reverse ++ r :: a :: b :: pre.reverse := by simp
    have e2 : (pre ++ b :: r :: post).reverse = post.reverse ++ r :: b :: pre.reverse := by simp
    rw [e1]
    rw [e2] at ih
    exact .btw _ _ (by omega) ih
theorem red_tq : ∀ (l : List Int) (b a : Int), Red (b :: a :: l) (b :: tq b a l)
  | [], b, a => .nil _
  | r :: l, b, a => by
    simp only [tq]
    by_cases e : a = r
    · rw [if_pos e]
      subst e
      exact .same [b] a l (red_tq l b a)
    · rw [if_neg e]
      by_cases c : Btw a b r
      · rw [if_pos c]
        exact .btw [] l c (red_tq l b r)
      · rw [if_neg c]
        exact (red_tq l a r).cons b
theorem red_ts : ∀ (l : List Int) (a : Int), Red (a :: l) (ts a l)
  | [], a => .nil _
  | r :: l, a => by
    simp only [ts]
    by_cases e : a = r
    · rw [if_pos e]
      subst e
      exact .same [] a l (red_ts l a)
    · rw [if_neg e]
      exact red_tq l a r
theorem red_tp (ns : List Int) : Red ns (tp ns) := by
  cases ns with
  | nil => exact .nil _
  | cons a l => exact red_ts l a
theorem zz_snoc : ∀ {l : List Int} {a b c : Int}, ZZ (l ++ [a, b]) → ((a < b ∧ c < b) ∨ (b < a ∧ b < c)) → ZZ (l ++ [a, b, c])
  | [], a, b, c, _, h => ⟨h, by show b ≠ c; omega⟩
  | [x], a, b, c, z, h => ⟨z.1, h, by show b ≠ c; omega⟩
  | [x, y], a, b, c, z, h => ⟨z.1, z.2.1, h, by show b ≠ c; omega⟩
  | x :: y :: w :: l, a, b, c, z, h => ⟨z.1, zz_snoc (l := y :: w :: l) z.2 h⟩
theorem zz_rev : ∀ {l : List Int}, ZZ l → ZZ l.reverse
  | [], _ => trivial
  | [x], _ => trivial
  | [x, y], z => fun e => z e.symm
  | x :: y :: w :: l, z => by
    have ih := zz_rev (l := y :: w :: l) z.2
    have e : (x :: y :: w :: l).reverse = l.reverse ++ [w, y, x] := by simp
    have e2 : (y :: w :: l).reverse = l.reverse ++ [w, y] := by simp
    rw [e]
    rw [e2] at ih
    exact zz_snoc ih (by have := z.1; omega)
theorem tp_rev (ns : List Int) : tp ns.reverse = (tp ns).reverse := by
  rw [(red_tp ns).rev.tp, zz_tp (zz_rev (tp_zz ns))]
theorem rg_comm (a b : Int) : rg a b = rg b a := by unfold rg; rw [Prod.mk.injEq]; constructor <;> split <;> split <;> omega
theorem taken_rev {a b c d : Int} (h : Taken a b c d) : Taken d c b a := by
  unfold Taken at *
  rw [rg_comm d c, rg_comm c b, rg_comm b a]
  exact ⟨h.2, h.1⟩
theorem step_rev {p q : List Int} {c : Int × Int} (h : Step p c q) : Step p.reverse c q.reverse := by
  induction h with
  | @here a b c d post t =>
    have e1 : (a :: b :: c :: d :: post).reverse = post.reverse ++ [d, c, b, a] := by simp
    have e2 : (a :: d :: post).reverse = post.reverse ++ [d, a] := by simp
    rw [e1, e2, rg_comm b c]
    exact (Step.here (post := []) (taken_rev t)).prefix _
  | @there x p q cy s ih =>
    rw [List.reverse_cons, List.reverse_cons]
    exact ih.suffix [x]
theorem run_rev {p q : List Int} {cs : List (Int × Int)} (h : Run p cs q) : Run p.reverse cs q.reverse := by
  induction h with
  | nil p => exact .nil _
  | cons s _ ih => exact .cons (step_rev s) ih
theorem nf_rev {p : List Int} (h : NF p) : NF p.reverse := fun c q s => by
  have := step_rev s
  rw [List.reverse_reverse] at this
  exact h _ _ this
/-- one count, its cycles sorted -/
structure Cn (ns : List Int) (ds : List (Int × Int)) (rs : List Int) : Prop where
  ex : ∃ cs, Run (tp ns) cs rs ∧ ds.Perm cs
  nf : NF rs
  srt : ds.Pairwise Le
theorem cn_one {ns ms : List Int} {ds es : List (Int × Int)} {rs ss : List Int} (e : tp ns = tp ms) (h : Cn ns ds rs) (g : Cn ms es ss) : ds = es ∧ rs = ss := by
  obtain ⟨cs, r1, p1⟩ := h.ex
  obtain ⟨cs2, r2, p2⟩ := g.ex
  rw [e] at r1
  obtain ⟨e1, e2⟩ := one_count (tp_zz ms) r1 h.nf r2 g.nf
  exact ⟨sorted_same (p1.trans (e2.trans p2.symm)) h.srt g.srt, e1⟩
theorem cn_rev {ns : List Int} {ds es : List (Int × Int)} {rs ss : List Int} (h : Cn ns ds rs) (g : Cn ns.reverse es ss) : es = ds ∧ ss = rs.reverse := by
  obtain ⟨cs, r1, p1⟩ := h.ex
  obtain ⟨cs2, r2, p2⟩ := g.ex
  have r3 := run_rev r1
  rw [← tp_rev] at r3
  obtain ⟨e1, e2⟩ := one_count (tp_zz _) r2 g.nf r3 (nf_rev h.nf)
  exact ⟨sorted_same (p2.trans (e2.trans p1.symm)) g.srt h.srt, e1⟩
/-! ### a load moved, stretched, negated -/
def Str (f : Int → Int) : Prop := (∀ a b, a < b ↔ f a < f b) ∨ (∀ a b, a < b ↔ f b < f a)
theorem str_eq {f : Int → Int} (h : Str f) (a b : Int) : a = b ↔ f a = f b := by
  rcases h with h | h
  · have h1 := h a b
    have h2 := h b a
    omega
  · have h1 := h a b
    have h2 := h b a
    omega
theorem str_btw {f : Int → Int} (h : Str f) (r b a : Int) : Btw r b a ↔ Btw (f r) (f b) (f a) := by
  unfold Btw
  rcases h with h | h
  · rw [h b r, h r a, h a r, h r b]
  · rw [h b r, h r a, h a r, h r b]
    omega
theorem tq_map {f : Int → Int} (h : Str f) : ∀ (l : List Int) (b a : Int), tq (f b) (f a) (l.map f) = (tq b a l).map f
  | [], _, _ => rfl
  | r :: l, b, a => by
    simp only [tq, List.map_cons]
    by_cases e : a = r
    · rw [if_pos e, if_pos ((str_eq h a r).mp e)]
      exact tq_map h l b a
    · rw [if_neg e, if_neg (fun z => e ((str_eq h a r).mpr z))]
      by_cases c : Btw a b r
      · rw [if_pos c, if_pos ((str_btw h a b r).mp c)]
        exact tq_map h l b r
      · rw [if_neg c, if_neg (fun z => c ((str_btw h a b r).mpr z)), List.map_cons, tq_map h l a r]
theorem ts_map {f : Int → Int} (h : Str f) : ∀ (l : List Int) (a : Int), ts (f a) (l.map f) = (ts a l).map f
  | [], _ => rfl
  | r :: l, a => by
    simp only [ts, List.map_cons]
    by_cases e : a = r
    · rw [if_pos e, if_pos ((str_eq h a r).mp e)]
      exact ts_map h l a
    · rw [if_neg e, if_neg (fun z => e ((str_eq h a r).mpr z)), List.map_cons, tq_map h l a r]
theorem tp_map {f : Int → Int} (h : Str f) (ns : List Int) : tp (ns.map f) = (tp ns).map f := by
  cases ns with
  | nil => rfl
  | cons a l => exact ts_map h l a
def mp (f : Int → Int) (r : Int × Int) : Int × Int := rg (f r.1) (f r.2)
theorem rg_map {f : Int → Int} (h : Str f) (a b : Int) : rg (f a) (f b) = mp f (rg a b) := by
  rcases Int.lt_trichotomy a b with z | z | z
  · unfold mp; rw [rg_up z]
  · subst z
    unfold mp rg
    simp
  · unfold mp; rw [rg_down z, rg_comm]
theorem taken_map {f : Int → Int} (h : Str f) {a b c d : Int} (t : Taken a b c d) : Taken (f a) (f b) (f c) (f d) := by
  unfold Taken at *
  rw [rg_map h a b, rg_map h b c, rg_map h c d]
  have key : ∀ u v x y : Int, u ≤ v → x ≤ y → u ≤ x → y ≤ v → ((mp f (u, v)).1 ≤ (mp f (x, y)).1 ∧ (mp f (x, y)).2 ≤ (mp f (u, v)).2) := by
    intro u v x y h1 h2 h3 h4
    have m : ∀ p q, p ≤ q → (f p ≤ f q ∨ f q ≤ f p) := fun p q _ => Int.le_total _ _
    unfold mp rg
    rcases h with h | h
    · have a1 := h v u; have a2 := h y x; have a3 := h x u; have a4 := h v y
      dsimp only
      repeat' split
      all_goals omega
    · have a1 := h v u; have a2 := h y x; have a3 := h x u; have a4 := h v y
      have a5 := h u v; have a6 := h x y; have a7 := h u x; have a8 := h y v
      dsimp only
      repeat' split
      all_goals omega
  have le : ∀ p q : Int, (rg p q).1 ≤ (rg p q).2 := by
    intro p q
    unfold rg
    dsimp only
    split <;> split <;> omega
  exact ⟨key _ _ _ _ (le a b) (le b c) t.1.1 t.1.2, key _ _ _ _ (le c d) (le b c) t.2.1 t.2.2⟩
theorem taken_back {f : Int → Int} (h : Str f) {a b c d : Int} (t : Taken (f a) (f b) (f c) (f d)) : Taken a b c d := by
  have key : ∀ p q x y : Int, (rg (f p) (f q)).1 ≤ (rg (f x) (f y)).1 ∧ (rg (f x) (f y)).2 ≤ (rg (f p) (f q)).2 → (rg p q).1 ≤ (rg x y).1 ∧ (rg x y).2 ≤ (rg p q).2 := by
    intro p q x y
    unfold rg
    rcases h with h | h
    · have a1 := h p q; have a2 := h q p; have a3 := h x y; have a4 := h y x
      have b1 := h p x; have b2 := h x p; have b3 := h p y; have b4 := h y p
      have c1 := h q x; have c2 := h x q; have c3 := h q y; have c4 := h y q
      dsimp only
      repeat' split
      all_goals omega
    · have a1 := h p q; have a2 := h q p; have a3 := h x y; have a4 := h y x
      have b1 := h p x; have b2 := h x p; have b3 := h p y; have b4 := h y p
      have c1 := h q x; have c2 := h x q; have c3 := h q y; have c4 := h y q
      dsimp only
      repeat' split
      all_goals omega
  exact ⟨key _ _ _ _ t.1, key _ _ _ _ t.2⟩
theorem step_map {f : Int → Int} (h : Str f) {p q : List Int} {c : Int × Int} (s : Step p c q) : Step (p.map f) (mp f c) (q.map f) := by
  induction s with
  | @here a b c d post t =>
    rw [← rg_map h]
    exact .here (taken_map h t)
  | there _ ih => exact .there ih
theorem run_map {f : Int → Int} (h : Str f) {p q : List Int} {cs : List (Int × Int)} (r : Run p cs q) : Run (p.map f) (cs.map (mp f)) (q.map f) := by
  induction r with
  | nil p => exact .nil _
  | cons s _ ih => exact .cons (step_map h s) ih
theorem step_back {f : Int → Int} (h : Str f) {p' q : List Int} {c : Int × Int} (s : Step p' c q) : ∀ {p : List Int}, p' = p.map f → ∃ c' q', Step p c' q' := by
  induction s with
  | @here a b c d post t =>
    intro p e
    match p, e with
    | a' :: b' :: c' :: d' :: post', e =>
      simp only [List.map_cons, List.cons.injEq] at e
      obtain ⟨e1, e2, e3, e4, _⟩ := e
      subst e1 e2 e3 e4
      exact ⟨_, _, .here (taken_back h t)⟩
    | [], e => simp at e
    | [_], e => simp at e
    | [_, _], e => simp at e
    | [_, _, _], e => simp at e
  | @there x p1 q1 cy s ih =>
    intro p e
    match p, e with
    | x' :: p', e =>
      rw [List.map_cons] at e
      obtain ⟨c', q', s'⟩ := ih (List.cons.inj e).2
      exact ⟨c', _, .there s'⟩
    | [], e => simp at e
theorem nf_map {f : Int → Int} (h : Str f) {p : List Int} (n : NF p) : NF (p.map f) := fun c q s => by
  obtain ⟨c', q', s'⟩ := step_back h s rfl
  exact n _ _ s'
theorem cn_map {f : Int → Int} (h : Str f) {ns : List Int} {ds es fs : List (Int × Int)} {rs ss : List Int} (g : Cn ns ds rs) (k : Cn (ns.map f) es ss) (p : fs.Perm (ds.map (mp f))) (srt : fs.Pairwise Le) : es = fs ∧ ss = rs.map f := by
  obtain ⟨cs, r1, p1⟩ := g.ex
  obtain ⟨cs2, r2, p2⟩ := k.ex
  have r3 := run_map h r1
  rw [← tp_map h] at r3
  obtain ⟨e1, e2⟩ := one_count (tp_zz _) r2 k.nf r3 (nf_map h g.nf)
  exact ⟨sorted_same (p2.trans (e2.trans ((p1.symm.map _).trans p.symm))) k.srt srt, e1⟩
theorem str_aff {s t : Int} (h : s ≠ 0) : Str fun x => x * s + t := by
  rcases (show 0 < s ∨ s < 0 by omega) with z | z
  · refine .inl fun a b => ?_
    have := Int.mul_lt_mul_right (a := s) (b := a) (c := b) z
    dsimp only
    omega
  · refine .inr fun a b => ?_
    have := Int.mul_lt_mul_right (a := -s) (b := a) (c := b) (by omega)
    rw [Int.mul_neg, Int.mul_neg] at this
    dsimp only
    omega
/-! ### readings repeated -/
theorem tp_rep : ∀ (m : Nat) (pre : List Int) (x : Int), tp (pre ++ List.replicate (m + 1) x) = tp (pre ++ [x])
  | 0, pre, x => rfl
  | m + 1, pre, x => by
    have := tp_same pre x (List.replicate m x)
    rw [show pre ++ List.replicate (m + 1 + 1) x = pre ++ x :: x :: List.replicate m x from rfl, this]
    exact tp_rep m pre x
theorem red_app {l m : List Int} (n : List Int) (h : Red l m) : Red (l ++ n) (m ++ n) := by
  induction h with
  | nil l => exact .nil _
  | same pre x post _ ih =>
    rw [List.append_assoc] at ih ⊢
    exact .same pre x _ ih
  | btw pre post hb _ ih =>
    rw [List.append_assoc] at ih ⊢
    exact .btw pre _ hb ih
/-- what the beginning is, is of no matter if its turning points are the same -/
theorem tp_pre {l m : List Int} (h : tp l = tp m) (n : List Int) : tp (l ++ n) = tp (m ++ n) := by
  rw [(red_app n (red_tp l)).tp, (red_app n (red_tp m)).tp, h]
theorem tp_twice {l m : List Int} (h : tp l = tp m) (k : Nat) (x : Int) : tp (l ++ List.replicate (k + 1) x) = tp (m ++ [x]) := by
  rw [tp_rep, tp_pre h]
/-! ### an upper point lowered -/
theorem cl_sub {lo hi : Int} {l m : List Int} (h : l.Sublist m) (o : Option Bool) : cl lo hi o l ≤ cl lo hi o m := by
  unfold cl
  have h2 : (lets lo hi l).Sublist (lets lo hi m) := h.filterMap _
  cases o with
  | none => exact cnt_mono h2
  | some b => exact cf_mono h2 b
/-- v lies between x and n -/
def Mid (x v n : Int) : Prop := (x ≤ v ∧ v ≤ n) ∨ (n ≤ v ∧ v ≤ x)
theorem mid_let {lo hi x v n : Int} {b : Bool} (h0 : lo < hi) (h : Mid x v n) (e1 : lett lo hi v = some b) (e2 : lett lo hi x ≠ some b) : lett lo hi n = some b := by
  unfold Mid at h
  rcases lett3 lo hi v h0 with ⟨z, e⟩ | ⟨z, e⟩ | ⟨_, _, e⟩ <;> rw [e] at e1 <;> cases e1
  · rcases lett3 lo hi x h0 with ⟨y, e⟩ | ⟨y, e⟩ | ⟨y, y2, e⟩
    · exact absurd e e2
    · exact lett_lo (by omega)
    · exact lett_lo (by omega)
  · rcases lett3 lo hi x h0 with ⟨y, e⟩ | ⟨y, e⟩ | ⟨y, y2, e⟩
    · exact lett_hi h0 (by omega)
    · exact absurd e e2
    · exact lett_hi h0 (by omega)
theorem cl_put {lo hi x v : Int} (h0 : lo < hi) (r : List Int) (hr : ∀ c, r.head? = some c → Mid x v c) (o : Option Bool) (ho : ∀ b, lett lo hi v = some b → lett lo hi x ≠ some b → o = none ∨ o = some b) : cl lo hi o (v :: r) ≤ cl lo hi o (x :: r) := by
  by_cases e : lett lo hi v = lett lo hi x
  · rw [cl_cons, cl_cons, e]
    exact Nat.le_refl _
  · cases ev : lett lo hi v with
    | none =>
      rw [cl_cons, ev]
      exact cl_sub (List.sublist_cons_self _ _) o
    | some b =>
      have ex : lett lo hi x ≠ some b := fun z => e (ev.trans z.symm)
      have d0 : d2 o b = 0 := by
        rcases ho b ev ex with z | z
        · rw [z]; rfl
        · rw [z]; simp [d2]
      rw [cl_cons, ev]
      show d2 o b + cl lo hi (some b) r ≤ _
      rw [d0, Nat.zero_add]
      cases r with
      | nil => rw [cl_nil]; exact Nat.zero_le _
      | cons c r =>
        have ec := mid_let h0 (hr c rfl) ev ex
        have k : cl lo hi o (c :: r) ≤ cl lo hi o (x :: c :: r) := cl_sub (List.sublist_cons_self _ _) o
        refine Nat.le_trans ?_ k
        rw [cl_cons, cl_cons, ec]
        show d2 (some b) b + _ ≤ d2 o b + _
        rw [d0]
        simp [d2]
theorem cl_put_at {lo hi x v : Int} (h0 : lo < hi) (r : List Int) (hr : ∀ c, r.head? = some c → Mid x v c) : ∀ (pre : List Int) (o : Option Bool), (∀ a, pre.getLast? = some a → Mid x v a) → (pre = [] → ∀ b, lett lo hi v = some b → lett lo hi x ≠ some b → o = none ∨ o = some b) → cl lo hi o (pre ++ v :: r) ≤ cl lo hi o (pre ++ x :: r)
  | [], o, _, ho => cl_put h0 r hr o (ho rfl)
  | p :: pre, o, hp, _ => by
    have key : ∀ o', (pre = [] → ∀ b, lett lo hi v = some b → lett lo hi x ≠ some b → o' = none ∨ o' = some b) → cl lo hi o' (pre ++ v :: r) ≤ cl lo hi o' (pre ++ x :: r) := fun o' h' =>
      cl_put_at h0 r hr pre o' (fun a ha => hp a (by
        cases pre with
        | nil => cases ha
        | cons q pre => rw [List.getLast?_cons_cons]; exact ha)) h'
    show cl lo hi o (p :: (pre ++ v :: r)) ≤ cl lo hi o (p :: (pre ++ x :: r))
    rw [cl_cons, cl_cons]
    cases e : lett lo hi p with
    | none =>
      refine key o fun e0 b h1 h2 => ?_
      subst e0
      have := mid_let h0 (hp p rfl) h1 h2
      rw [e] at this
      cases this
    | some b' =>
      refine Nat.add_le_add_left (key _ fun e0 b h1 h2 => .inr ?_) _
      subst e0
      have := mid_let h0 (hp p rfl) h1 h2
      rw [e] at this
      exact this
theorem chg_put_at {lo hi x v : Int} (h0 : lo < hi) {pre r : List Int} (hp : ∀ a, pre.getLast? = some a → Mid x v a) (hr : ∀ c, r.head? = some c → Mid x v c) : chg (pre ++ v :: r) lo hi ≤ chg (pre ++ x :: r) lo hi :=
  cl_put_at h0 r hr pre none hp fun _ _ _ _ => .inl rfl
theorem chg_tp {lo hi : Int} (h0 : lo < hi) (ns : List Int) : chg (tp ns) lo hi = chg ns lo hi := cl_tp h0 ns
theorem zz_three : ∀ {ps : List Int} {j : Nat} {a x c : Int}, ZZ ps → ps[j]? = some a → ps[j + 1]? = some x → ps[j + 2]? = some c → (a < x ∧ c < x) ∨ (x < a ∧ x < c)
  | p :: q :: r :: l, 0, a, x, c, z, h1, h2, h3 => by
    have e1 : p = a := Option.some.inj h1
    have e2 : q = x := Option.some.inj h2
    have e3 : r = c := Option.some.inj h3
    subst e1 e2 e3
    have := z.1
    omega
  | p :: l, j + 1, a, x, c, z, h1, h2, h3 => zz_three (ps := l) (j := j) z.tail h1 h2 h3
  | [], _, _, _, _, _, h, _, _ => by simp at h
  | [_], 0, _, _, _, _, _, h, _ => by simp at h
  | [_, _], 0, _, _, _, _, _, _, h => by simp at h
theorem zz_two : ∀ {ps : List Int} {j : Nat} {a x : Int}, ZZ ps → ps[j]? = some a → ps[j + 1]? = some x → a ≠ x
  | p :: q :: l, 0, a, x, z, h1, h2 => by
    have e1 : p = a := Option.some.inj h1
    have e2 : q = x := Option.some.inj h2
    subst e1 e2
    exact zz_cons z
  | p :: l, j + 1, a, x, z, h1, h2 => zz_two (ps := l) (j := j) z.tail h1 h2
  | [], _, _, _, _, h, _ => by simp at h
  | [_], 0, _, _, _, _, h => by simp at h
/-- near is a neighbour of the point at j, the nearer one -/
def Near (ps : List Int) (j : Nat) (x near : Int) : Prop :=
  (∀ a, 0 < j → ps[j - 1]? = some a → (near - x).natAbs ≤ (a - x).natAbs) ∧ (∀ c, ps[j + 1]? = some c → (near - x).natAbs ≤ (c - x).natAbs) ∧ ((0 < j ∧ ps[j - 1]? = some near) ∨ ps[j + 1]? = some near)
theorem near_mid {ps : List Int} {j : Nat} {x near v : Int} (zz : ZZ ps) (hx : ps[j]? = some x) (hn : Near ps j x near) (hv : Mid x v near) : (∀ a, 0 < j → ps[j - 1]? = some a → Mid x v a) ∧ (∀ c, ps[j + 1]? = some c → Mid x v c) := by
  obtain ⟨n1, n2, n3⟩ := hn
  unfold Mid at *
  refine ⟨fun a hj ha => ?_, fun c hc => ?_⟩
  · have d := n1 a hj ha
    rcases n3 with ⟨_, e⟩ | e
    · rw [ha] at e
      cases e
      exact hv
    · obtain ⟨i, rfl⟩ : ∃ i, j = i + 1 := ⟨j - 1, by omega⟩
      have := zz_three zz ha hx e
      omega
  · have d := n2 c hc
    rcases n3 with ⟨hj, e⟩ | e
    · obtain ⟨i, rfl⟩ : ∃ i, j = i + 1 := ⟨j - 1, by omega⟩
      have := zz_three zz e hx hc
      omega
    · rw [hc] at e
      cases e
      exact hv
theorem lowered {lo hi : Int} (h0 : lo < hi) {ns : List Int} {j : Nat} {x near v : Int} (hx : (tp ns)[j]? = some x) (hn : Near (tp ns) j x near) (hv : Mid x v near) : chg ((tp ns).set j v) lo hi ≤ chg ns lo hi := by
  rw [← chg_tp h0 ns]
  generalize hp : tp ns = ps at *
  have zz : ZZ ps := hp ▸ tp_zz ns
  obtain ⟨m1, m2⟩ := near_mid zz hx hn hv
  obtain ⟨hj, ex⟩ := List.getElem?_eq_some_iff.mp hx
  have e1 : ps.set j v = ps.take j ++ v :: ps.drop (j + 1) := by rw [List.set_eq_take_append_cons_drop, if_pos hj]
  have e2 : ps.take j ++ x :: ps.drop (j + 1) = ps := by
    rw [← ex, ← List.drop_eq_getElem_cons hj, List.take_append_drop]
  rw [e1]
  refine Nat.le_trans (chg_put_at h0 (x := x) (v := v) (fun a ha => ?_) (fun c hc => ?_)) (Nat.le_of_eq (by rw [e2]))
  · rw [List.getLast?_eq_getElem?, List.length_take, Nat.min_eq_left (by omega)] at ha
    by_cases z : 0 < j
    · rw [List.getElem?_take] at ha
      rw [if_pos (by omega)] at ha
      exact m1 a z ha
    · have : j = 0 := by omega
      subst this
      simp at ha
  · rw [List.head?_drop] at hc
    exact m2 c hc
theorem sort_two {ms : List Int} {u v : Int} (p : ms.Perm [u, v]) (s : ms.Pairwise (· ≤ ·)) : ms = [(rg u v).1, (rg u v).2] := by
  have hl := p.length_eq
  match ms, hl with
  | [a, b], _ =>
    have h1 := (p.mem_iff (a := a)).mp (by simp)
    have h2 := (p.mem_iff (a := b)).mp (by simp)
    have h3 := (p.mem_iff (a := u)).mpr (by simp)
    have h4 := (p.mem_iff (a := v)).mpr (by simp)
    simp only [List.mem_cons, List.not_mem_nil, or_false] at h1 h2 h3 h4
    have h5 : a ≤ b := by simpa using s
    unfold rg
    dsimp only
    have e1 : a = if v < u then v else u := by split <;> omega
    have e2 : b = if v > u then v else u := by split <;> omega
    rw [← e1, ← e2]
end K9

/-! never more: by sets, by sizes, both ways; words of loads -/
namespace K57
open K55 K55b K55c RC RE RM RN KM
def at1 (rs : List (Int × Int)) (i : Nat) : Int × Int := (rs[i]?).getD (0, 0)
def NMm (rs ss : List (Int × Int)) : Prop := ∃ o : Nat → Nat, (∀ i, i < rs.length → o i < ss.length) ∧ (∀ i, i < rs.length → cont (at1 ss (o i)) (at1 rs i)) ∧ ∀ i j, i < rs.length → j < rs.length → o i = o j → i = j
theorem map_at1 (rs : List (Int × Int)) : (List.range rs.length).map (at1 rs) = rs := by
  apply List.ext_getElem?
  intro i
  rw [List.getElem?_map]
  by_cases h : i < rs.length
  · rw [List.getElem?_range h]
    show some (at1 rs i) = _
    unfold at1
    rw [List.getElem?_eq_getElem h]
    rfl
  · rw [List.getElem?_eq_none (by rw [List.length_range]; omega), List.getElem?_eq_none (by omega)]
    rfl
theorem at1_mem {rs : List (Int × Int)} {i : Nat} (h : i < rs.length) : at1 rs i ∈ rs := by
  unfold at1
  rw [List.getElem?_eq_getElem h]
  exact List.getElem_mem h
theorem countP_at1 (p : Int × Int → Bool) (rs : List (Int × Int)) : ((List.range rs.length).filter fun i => p (at1 rs i)).length = rs.countP p := by
  conv => rhs; rw [← map_at1 rs]
  rw [List.countP_map, List.countP_eq_length_filter]
  rfl
def UpP (p : Int × Int → Bool) : Prop := ∀ o r, cont o r → p r = true → p o = true
theorem plcs_up {p : Int × Int → Bool} (up : UpP p) (V rs : List (Int × Int)) (hV : ∀ v, v ∈ V → p v = true) : (plcs (at1 rs) rs.length V).length ≤ rs.countP p := by
  rw [← countP_at1 p rs]
  unfold plcs
  rw [← List.countP_eq_length_filter, ← List.countP_eq_length_filter]
  refine List.countP_mono_left fun i hi h => ?_
  obtain ⟨v, hv, hc⟩ := List.any_eq_true.mp h
  exact up _ _ (hasB_iff.mp hc) (hV v hv)
theorem plcs_ge (p : Int × Int → Bool) (rs : List (Int × Int)) : rs.countP p ≤ (plcs (at1 rs) rs.length (rs.filter p)).length := by
  rw [← countP_at1 p rs]
  unfold plcs
  rw [← List.countP_eq_length_filter, ← List.countP_eq_length_filter]
  refine List.countP_mono_left fun i hi h => ?_
  exact List.any_eq_true.mpr ⟨at1 rs i, List.mem_filter.mpr ⟨at1_mem (List.mem_range.mp hi), h⟩, hasB_iff.mpr (cont_refl _)⟩
theorem nm_le {p : Int × Int → Bool} (up : UpP p) {rs ss : List (Int × Int)} (h : NMm rs ss) : rs.countP p ≤ ss.countP p := by
  obtain ⟨o, h1, h2, h3⟩ := h
  have a := plcs_ge p rs
  have b := matched h1 h2 h3 (rs.filter p)
  have c := plcs_up up (rs.filter p) ss fun v hv => (List.mem_filter.mp hv).2
  omega
/-- around one of V -/
def ard (V : List (Int × Int)) (r : Int × Int) : Bool := V.any (hasB r)
theorem ard_up (V : List (Int × Int)) : UpP (ard V) := fun o r h g => by
  obtain ⟨v, hv, hc⟩ := List.any_eq_true.mp g
  exact List.any_eq_true.mpr ⟨v, hv, hasB_iff.mpr (cont_trans h (hasB_iff.mp hc))⟩
theorem ard_plcs (V rs : List (Int × Int)) : (plcs (at1 rs) rs.length V).length = rs.countP (ard V) := countP_at1 (ard V) rs
theorem srt_ex (n : Nat) (key : Nat → Int) : ∃ L : List Nat, L.Perm (List.range n) ∧ (L.map key).Pairwise (· ≤ ·) := by
  refine ⟨(List.range n).mergeSort (fun a b => decide (key a ≤ key b)), List.mergeSort_perm _ _, ?_⟩
  rw [List.pairwise_map]
  refine (List.pairwise_mergeSort (le := fun a b => decide (key a ≤ key b)) (fun a b c h1 h2 => ?_) (fun a b => ?_) _).imp fun h => of_decide_eq_true h
  · have := of_decide_eq_true h1
    have := of_decide_eq_true h2
    exact decide_eq_true (by omega)
  · by_cases h : key a ≤ key b
    · rw [decide_eq_true h]; rfl
    · rw [decide_eq_true (show key b ≤ key a by omega), Bool.or_true]
theorem snd_inj : ∀ {d : List (Nat × Nat)} {e g : Nat × Nat}, (d.map (·.2)).Nodup → e ∈ d → g ∈ d → e.2 = g.2 → e = g
  | x :: d, e, g, nd, he, hg, h => by
    have nd2 := List.nodup_cons.mp nd
    rcases List.mem_cons.mp he with z | z <;> rcases List.mem_cons.mp hg with y | y
    · rw [z, y]
    · exact absurd (List.mem_map.mpr ⟨g, y, by rw [← h, z]⟩) nd2.1
    · exact absurd (List.mem_map.mpr ⟨e, z, by rw [h, y]⟩) nd2.1
    · exact snd_inj nd2.2 z y h
/-- never more, by sets of the first list's ranges -/
theorem nm_sets {rs ss : List (Int × Int)} : NMm rs ss ↔ ∀ V : List (Int × Int), (∀ v ∈ V, v ∈ rs) → rs.countP (ard V) ≤ ss.countP (ard V) := by
  constructor
  · intro h V _
    exact nm_le (ard_up V) h
  · intro hs
    obtain ⟨L, pL, sL⟩ := srt_ex rs.length fun i => (at1 rs i).1
    obtain ⟨fr0, pf, sf⟩ := srt_ex ss.length fun i => (at1 ss i).2
    have nd0 : fr0.Nodup := pf.nodup_iff.mpr List.nodup_range
    have ndL : L.Nodup := pL.nodup_iff.mpr List.nodup_range
    have hm : ∀ q, q ∈ fr0 ↔ q < ss.length := fun q => by rw [pf.mem_iff, List.mem_range]
    have hL : ∀ a ∈ L, a < rs.length := fun a m => List.mem_range.mp (pL.mem_iff.mp m)
    have v0 : Inv (at1 rs) (at1 ss) fr0 [] fr0 := ⟨fun q => ⟨fun h => ⟨h, fun _ z => (List.not_mem_nil z).elim⟩, fun h => h.1⟩, nd0, List.pairwise_map.mp sf, fun _ z => (List.not_mem_nil z).elim, List.nodup_nil, fun i e q h => by simp at h⟩
    rcases go_or hm L fr0 [] v0 hL (fun _ z => (List.not_mem_nil z).elim) (by simpa using ndL) (by simpa using sL) with ⟨d3, fr2, iv, hk, hg⟩ | ⟨_, V0, hV, hVi, hlt⟩
    · have iv : Inv (at1 rs) (at1 ss) fr0 d3 fr2 := by simpa using iv
      have keys : ∀ i, i < rs.length → ∃ p, (i, p) ∈ d3 := fun i hi => by
        have : i ∈ L := pL.mem_iff.mpr (List.mem_range.mpr hi)
        rw [← hk] at this
        obtain ⟨e, he, rfl⟩ := List.mem_map.mp this
        exact ⟨e.2, he⟩
      obtain ⟨o, ho⟩ := Classical.axiomOfChoice (r := fun (i p : Nat) => i < rs.length → (i, p) ∈ d3) fun i => by
        by_cases hi : i < rs.length
        · obtain ⟨p, hp⟩ := keys i hi
          exact ⟨p, fun _ => hp⟩
        · exact ⟨0, fun z => absurd z hi⟩
      exact ⟨o, fun i hi => (hm _).mp (iv.mem _ (ho i hi)).1, fun i hi => (iv.mem _ (ho i hi)).2, fun i j hi hj h => congrArg Prod.fst (snd_inj iv.inj (ho i hi) (ho j hj) h)⟩
    · have := hs V0 fun v hv => by
        obtain ⟨i, hi, rfl⟩ := hVi v hv
        exact at1_mem hi
      rw [ard_plcs, ard_plcs] at hlt
      omega
theorem count_both {rs ss : List (Int × Int)} (h : NMm rs ss) (g : NMm ss rs) : rs.Perm ss := by
  have e : ∀ lo hi : Int, nh lo hi rs = nh lo hi ss := fun lo hi => by
    have up : UpP (hl lo hi) := fun o r c z => by
      simp only [hl, Bool.and_eq_true, decide_eq_true_eq] at z ⊢
      unfold cont at c
      omega
    have a := nm_le up h
    have b := nm_le up g
    show rs.countP (hl lo hi) = ss.countP (hl lo hi)
    omega
  refine List.perm_iff_count.mpr fun r => ?_
  obtain ⟨lo, hi⟩ := r
  have j1 := just (lo := lo) (hi := hi) rs
  have j2 := just (lo := lo) (hi := hi) ss
  rw [e, e, e, e] at j1
  omega
/-- ranges of the size s or more -/
def szB (s : Int) (r : Int × Int) : Bool := decide (s ≤ r.2 - r.1)
theorem sz_up (s : Int) : UpP (szB s) := fun o r c z => by
  simp only [szB, decide_eq_true_eq] at z ⊢
  unfold cont at c
  omega
end K57

/-! sorted of a set of pairs of ints of any size -/
namespace GSP
open PySem PySem.Spec PyProof.Rows L2 SrtO
def pr2 : List Int → Int × Int
  | [x, y] => (x, y) | _ => (0, 0)
section
variable {P : Program} {w : World} {A : Around} {E : Value → Shared → Prop} {s : Shared}
theorem isPair_of {h : Heap} {k : List Int} {b : Addr} (x : IsT P w h k b) (hl : k.length = 2) : Srt.IsPair h (.ref b) (pr2 k).1 (pr2 k).2 := by
  obtain ⟨o, items, n, ho, hc, hd, hi⟩ := x
  have hi := ints_of_items hi
  match k, hl with
  | [x, y], _ =>
    obtain ⟨l⟩ := items
    cases hi with
    | cons _ t h2 =>
      cases h2 with
      | cons _ u h3 =>
        cases h3
        exact ⟨b, o, t, u, n, rfl, ho, hc, hd⟩
theorem sorted_setP {a : Addr} {L : List (Addr × List Int)} {es : Array (Int × Value)} {ep : Nat} {t : SetTable} {Q : Value → Shared → Prop} (R : SetTR P w s.heap a L es ep t) (hh : A.handled = none)
    (hB : ∀ p ∈ L, p.2.length = 2)
    (hQ : ∀ s' p (out : Array Value) (c : Nat) (L' : List (Addr × List Int)), (∀ b o, s.heap.get? b = some o → s'.heap.get? b = some o) → s'.gens = s.gens → s'.os = s.os → s.heap.objs.size ≤ p →
      s'.heap.get? p = some (seqObj "list" out c) → out.toList = L'.map (fun q => Value.ref q.1) → L'.Perm L → L'.Pairwise (fun q r => lexB (pr2 r.2) (pr2 q.2) = false) → Q (.ref p) s') :
    wpAny (model P w) A (call (.builtin "sorted") [.ref a]) Q E s := by
  obtain ⟨o, ho, hex, hd⟩ := R.ob
  have hsz := R.size
  have hfew := R.few
  refine Calls.call_function_entry kind_sorted plain_sorted entry_sorted (args_sorted1 _) ?_
  unfold Builtin.«sorted»
  refine wpAny_bind (m := checkCount "sorted" 1 1 _) (wpAny_pure ?_)
  refine wpAny_bind (collect_set (A := A.in1) hh ⟨o, ho, hex.1, hd⟩ R.fits (by unfold scanBound; omega) R.tab.ris R.led fun s1 vs k1 hz g1 o1 pm => ?_)
  have hes : es.toList.map (·.2) = L.map fun q => Value.ref q.1 := by
    rw [R.rows]
    unfold rowsOf
    rw [List.map_map] <;> rfl
  rw [hes] at pm
  have ord : ∀ vs : List Value, (∀ v ∈ vs, ∃ q ∈ L, v = Value.ref q.1) → ∃ L1 : List (Addr × List Int), vs = L1.map (fun q => Value.ref q.1) ∧ ∀ q ∈ L1, q ∈ L := by
    intro vs
    induction vs with
    | nil => intro _; exact ⟨[], rfl, fun q hq => (by cases hq)⟩
    | cons v vs ih =>
      intro hv
      obtain ⟨q, hq, e⟩ := hv v List.mem_cons_self
      obtain ⟨L1, e1, hs⟩ := ih fun u hu => hv u (List.mem_cons_of_mem _ hu)
      refine ⟨q :: L1, by rw [List.map_cons, e, e1], fun r hr => ?_⟩
      rcases List.mem_cons.mp hr with z | z
      · rw [z]; exact hq
      · exact hs r z
  have one : ∀ q ∈ L, ∀ r ∈ L, q.1 = r.1 → q = r := fun q hq r hr e => by
    have a1 := R.tup q hq
    have a2 := R.tup r hr
    rw [e] at a1
    have e2 : q.2 = r.2 := a1.inj a2
    exact Prod.ext e e2
  have perm_of : ∀ L1 : List (Addr × List Int), (∀ q ∈ L1, q ∈ L) → (L1.map (fun q => Value.ref q.1)).Perm (L.map fun q => Value.ref q.1) → L1.Perm L := by
    intro L1 hs pm1
    have nL : L.Nodup := nodup_of_map R.nd
    have nref : (L.map fun q => Value.ref q.1).Nodup := by
      refine List.pairwise_map.mpr (List.Pairwise.imp_of_mem (fun {q r} hq hr hne e => ?_) nL)
      injection e with e
      exact hne (one q hq r hr e)
    have n1 : L1.Nodup := nodup_of_map (pm1.nodup_iff.mpr nref)
    refine (List.perm_ext_iff_of_nodup n1 nL).mpr fun q => ⟨hs q, fun hq => ?_⟩
    have hm : Value.ref q.1 ∈ L1.map (fun q => Value.ref q.1) := pm1.mem_iff.mpr (List.mem_map.mpr ⟨q, hq, rfl⟩)
    obtain ⟨r, hr, e⟩ := List.mem_map.mp hm
    injection e with e
    rw [← one r (hs r hr) q hq e]
    exact hr
  have hvl : vs.length < 64 := by rw [pm.length_eq, List.length_map]; exact hfew
  have hvz : vs.length ≤ sizeLine := by rw [sizeLine_eq]; omega
  refine wpAny_bind (wpAny_newList ?_ (by rw [sizeLine_eq]; omega))
  have hoL : (s1.heap.push (seqObj "list" vs.toArray 0)).get? s1.heap.objs.size = some (seqObj "list" vs.toArray 0) := Heap.get?_push_size _ rfl
  have tk : ∀ q ∈ L, IsT P w (s1.heap.push (seqObj "list" vs.toArray 0)) q.2 q.1 := fun q hq => isT_keep (R.tup q hq) fun b u e => Heap.get?_push_of_some _ (k1 b u e)
  have intz : ∀ q ∈ L, TS.intsOf (s1.heap.push (seqObj "list" vs.toArray 0)) (.ref q.1) = q.2 := fun q hq => (tupInts_of (P := P) (w := w) (tk q hq)).ints
  have hp : ∀ v ∈ vs, Srt.IsPair (s1.heap.push (seqObj "list" vs.toArray 0)) v (pr2 (TS.intsOf (s1.heap.push (seqObj "list" vs.toArray 0)) v)).1 (pr2 (TS.intsOf (s1.heap.push (seqObj "list" vs.toArray 0)) v)).2 := fun v hv => by
    obtain ⟨q, hq, e⟩ := List.mem_map.mp (pm.mem_iff.mp hv)
    rw [← e, intz q hq]
    exact isPair_of (tk q hq) (hB q hq)
  have nt : ∀ o, (s1.heap.push (seqObj "list" vs.toArray 0)).get? s1.heap.objs.size = some o → o.cls ≠ .type "tuple" := fun o e => by
    rw [hoL] at e
    cases e
    intro c
    exact absurd (Value.type.inj c) (by decide)
  refine wpAny_bind (wpAny_holding (wpAny_call_entry slot_list_sort ⟨_, hoL, rfl⟩ entry_list_sort (list_sort_ord (s := { s1 with heap := s1.heap.push (seqObj "list" vs.toArray 0) }) (swo_lex fun v => pr2 (TS.intsOf (s1.heap.push (seqObj "list" vs.toArray 0)) v)) hoL hvz (fun h2 => pairs_sortableO (s := { s1 with heap := s1.heap.push (seqObj "list" vs.toArray 0) }) (by omega) hp nt) fun out a2 a1 => ⟨_, rfl, ?_⟩) (args_list_sort _)))
  obtain ⟨c, hc⟩ := sortedHeap_at (vs := vs) (out := out.toArray) hoL
  obtain ⟨L', e', hs'⟩ := ord out fun v hv => by
    obtain ⟨q, hq, e⟩ := List.mem_map.mp (pm.mem_iff.mp (a1.perm.mem_iff.mp hv))
    exact ⟨q, hq, e.symm⟩
  have pL : L'.Perm L := perm_of L' hs' (by rw [← e']; exact a1.perm.trans pm)
  have pw : L'.Pairwise (fun q r => lexB (pr2 r.2) (pr2 q.2) = false) := by
    have a3 : out.Pairwise (fun v u => lexB (pr2 (TS.intsOf (s1.heap.push (seqObj "list" vs.toArray 0)) u)) (pr2 (TS.intsOf (s1.heap.push (seqObj "list" vs.toArray 0)) v)) = false) := a2
    rw [e'] at a3
    refine List.Pairwise.imp_of_mem (fun {q r} hq hr hle => ?_) (List.pairwise_map.mp a3)
    rw [intz q (hs' q hq), intz r (hs' r hr)] at hle
    exact hle
  refine wpAny_pure ⟨_, rfl, hQ _ s1.heap.objs.size out.toArray c L' (fun b u e => ?_) g1 o1 hz hc (by simpa using e') pL pw⟩
  have q := k1 b u e
  have hlt := Heap.lt_size q
  show (sortedHeap (s1.heap.push (seqObj "list" vs.toArray 0)) s1.heap.objs.size vs out.toArray).get? b = some u
  rw [sortedHeap_old (Nat.ne_of_lt hlt) (by rw [size_push']; exact Nat.lt_succ_of_lt hlt)]
  exact Heap.get?_push_of_some _ q
end
section
variable {X : Cx}
def rSortedP (K : PySem.W.Frag) (P : Program) (w : World) : List V → Hp → VK → Prop := fun vs H Q => ∃ (a : Addr) (L : List (Addr × List Int)), vs = [V.ref a] ∧ H a = some (SetTO P w a L) ∧ (∀ p ∈ L, SqT K H p.1 (p.2.map V.int)) ∧
  (∀ p ∈ L, p.2.length = 2) ∧
  ∀ (L' : List (Addr × List Int)) (p : Addr), L'.Perm L → (L'.map (·.2)).Nodup → L'.length < 64 → L'.Pairwise (fun q r => lexB (pr2 r.2) (pr2 q.2) = false) → H p = none → Q (.ref p) (upd H p (.lst (L'.map fun q => V.ref q.1)))
theorem cr_sortedP (hc : X.calm = true) : CallR X (.builtin "sorted") (rSortedP X.K X.prog X.w) := by
  intro pins s σ H vs us Q I r h
  obtain ⟨a, L, rfl, ha, hk, hB, q⟩ := h
  have R0 : SetT0 X.prog X.w s.heap a L := (I.hok a _ ha).1
  obtain ⟨es, ep, t, R⟩ := R0.full fun p hp => I.isT (hk p hp)
  rw [Vals.ref1 r]
  refine sorted_setP R (I.ok.hd hc) hB fun s' p out c L' k g o hp hg hout pm pw => ?_
  have hfew : L'.length < 64 := by rw [pm.length_eq]; exact R.few
  have hlen : (L'.map fun q => V.ref q.1).length ≤ sizeLine := by rw [List.length_map, sizeLine_eq]; omega
  have hn : H p = none := I.hok.fresh hp
  have hv : Vals (L'.map fun q => V.ref q.1) out.toList := by rw [hout]; exact vals_of_refs L'
  have J : Inv X pins σ (upd H p (.lst (L'.map fun q => V.ref q.1))) { s with heap := s'.heap, gens := s'.gens, drawn := s'.drawn, toks := s'.toks } :=
    I.call (ch := []) (Un.laid k hp hn) (I.hok.laid k hp ⟨hlen, out.toList, c, hv, hg⟩) (by rw [g]; exact I.bare) (fun _ z => nomatch z)
  have e : s' = { s with heap := s'.heap, gens := s'.gens, drawn := s'.drawn, toks := s'.toks } := by
    cases s'
    cases s
    cases o
    rfl
  rw [e]
  exact ⟨.ref p, _, J, rfl, q L' p pm ((pm.map (·.2)).nodup_iff.mpr R.nd) hfew pw hn⟩
end
end GSP

/-! y = {k: v for .. in .. if ..}, over any walk -/
namespace GDC
open PySem PySem.Spec PyProof.Rows L2
section
variable {X : Cx}
theorem ps_setDc {i : Nat} {y : Str} {py : Pos} {kx vx tg iter : Expr} {ifs : List Expr} {scope : Scope} {own : List (Str × Nat)} {pos spos : Pos} {wi : TI} {g : TG} {tt : TT} {tk tv : TE} (hc : X.calm = true) (hN : X.N.Nodup) (hy : X.N[i]? = some y) (hyl : X.env.scope.names.lookup y = some .local)
    (hsw : swapsWith (.DictComp kx vx [⟨tg, iter, ifs, 0⟩] scope pos) (some (.Name y py)) spos.line X.env = pure true) (hi : PI X tg iter wi) (ok : BlkOk X.N X.env.scope scope own)
    (hg : ∀ (s : Shared) (H : Hp) (C : Addr) (cl : List (Str × Addr)) (fp : List Addr), PG (X.blk s H scope (compEnvC scope cl C X.env) fp) tg g) (ht : ∀ (s : Shared) (H : Hp) (C : Addr) (cl : List (Str × Addr)) (fp : List Addr), PTs (X.blk s H scope (compEnvC scope cl C X.env) fp) ifs tt)
    (hk : ∀ (s : Shared) (H : Hp) (C : Addr) (cl : List (Str × Addr)) (fp : List Addr), PE (X.blk s H scope (compEnvC scope cl C X.env) fp) kx tk)
    (he : ∀ (s : Shared) (H : Hp) (C : Addr) (cl : List (Str × Addr)) (fp : List Addr), PE (X.blk s H scope (compEnvC scope cl C X.env) fp) vx tv) (hs : ∀ x, foldedSetIterable iter X.env x = pure x := by intro _; rfl) :
    PS X (.Assign [.Name y py] (.DictComp kx vx [⟨tg, iter, ifs, 0⟩] scope pos) spos) (tAsg (tDc wi g tt tk tv (own.map (·.2))) (gName i)) := by
  refine ⟨fun pins s σ H D I h => ?_⟩
  rw [exec_Assign_Name_used _ _ _ _ hsw]
  refine wpAny_bind (wpAny_standAt (wpAny_bind ?_))
  show wpAny _ X.A (do let _ ← comprehension (.DictComp kx vx [⟨tg, iter, ifs, 0⟩] scope pos) scope X.env (firstIterPos [⟨tg, iter, ifs, 0⟩] pos) newDict false (eval iter X.env) (some (assign (.Name y py) X.env))) _ _ s
  have h : tDc wi g tt tk tv (own.map (·.2)) σ H (fun x H1 => gName i x σ H1 D.nx) := h
  refine wpAny_bind (thn (dc_core (Qf := fun _ s' => SP X pins D .next s') hc hN I hi ok hg ht hk he hs h fun L C s' m H' I' q hn f => ?_) fun _ s' hq => wpAny_pure (wpAny_pure hq))
  show wpAny _ _ (assign (.Name y py) X.env (.ref L)) _ _ _
  refine wpAny_assign_Name (store_ok2 (v := V.ref L) I' hN hy (.inl hyl) rfl (fun s2 I2 ⟨a, sb, ha⟩ => ?_) (.inr hyl))
  obtain ⟨f0, f1, f2, f3, f4, f5⟩ := f
  have haC : C ≠ a := by
    rcases ha with z | z
    · rw [z]; exact f1
    · exact fun e => f4 y a z e.symm
  refine ⟨m, hn.sameBut sb haC, fun h3 sb3 => ?_⟩
  exact ⟨_, H', I2.turned (t' := s2.toks) (fun b o hb e => (sb3.2 b hb).trans e) f0 f1 f3 f4 f5, q⟩
theorem sw_trueD {kx vx : Expr} {gs : List Comprehension} {scope : Scope} {pos py : Pos} {y : Str} {l : Nat} {env : Env} (hk : env.scope.kind = .function) (hy : env.scope.names.lookup y = some .local) (hl : (py.line == pos.line) = true)
    (ha : (scope.names.any fun (n, k) => n == y && (k == .local || k == .cell)) = false) : swapsWith (.DictComp kx vx gs scope pos) (some (.Name y py)) l env = pure true := by
  have ky : env.kindOf y = some .local := hy
  have hb : env.blockKind = .function := by unfold Env.blockKind; rw [hk]; rfl
  unfold swapsWith
  simp only [hb, ky, ha, Expr.pos, hl]
  rfl
end
/-- over any walk -/
theorem dc_it {J : It} {n : Nat} {G : Hp → Prop} {Y : Nat → Hp → V → Hp → Prop} (w : Walk J n G Y) {g : TG} {tt : TT} {tk tv : TE} {vs : List Nat} {σ : L2.St} {H1 : Hp} {D : Addr} {Qd : Hp → Prop} (Pv : Nat → Hp → Prop) (h0 : Pv 0 (upd H1 D (.dK []))) (hG : ∀ i H, i ≤ n → Pv i H → G H)
    (hs : ∀ i x H H', i < n → Pv i H → Y i H x H' → g x (wipe σ vs) H' fun σ2 H2 => wipe σ2 vs = wipe σ vs ∧ tt σ2 H2 fun b H3 =>
      if b = true then tk σ2 H3 fun y H4 => tv σ2 H4 fun z H5 => ∃ kvs k, y = kV k ∧ H5 D = some (.dK kvs) ∧ kvs.length < sizeLine ∧ Pv (i + 1) (upd H5 D (.dK (putK kvs k z))) else Pv (i + 1) H3) (hd : ∀ H, Pv n H → Qd H) :
    ∃ W : Nat → Nat → Hp → Prop, (∃ m, W 0 m (upd H1 D (.dK []))) ∧ ∀ i m H, W i m H →
      (J.stop i H ∧ Qd H) ∨ (J.go i H ∧ ∃ Nx : Hp → Prop, (∀ H', Nx H' → ∃ m', m' < m ∧ W (i + 1) m' H') ∧ ∀ x H', J.yld i H x H' → g x (wipe σ vs) H' fun σ2 H2 => wipe σ2 vs = wipe σ vs ∧ tt σ2 H2 fun b H3 =>
        if b = true then tk σ2 H3 fun y H4 => tv σ2 H4 fun z H5 => ∃ kvs k, y = kV k ∧ H5 D = some (.dK kvs) ∧ kvs.length < sizeLine ∧ Nx (upd H5 D (.dK (putK kvs k z))) else Nx H3) := by
  refine ⟨fun i m H => m = n - i ∧ i ≤ n ∧ Pv i H, ⟨n, by simp, Nat.zero_le _, h0⟩, ?_⟩
  rintro i m H ⟨rfl, hi, p⟩
  have q := hG i H hi p
  by_cases hlt : i < n
  · refine .inr ⟨w.goes i H hlt q, Pv (i + 1), fun H' p' => ⟨n - (i + 1), by omega, rfl, hlt, p'⟩, fun x H' y => hs i x H H' hlt p (w.yields i H x H' hlt q y)⟩
  · have e : i = n := by omega
    subst e
    exact .inl ⟨w.stops H q, hd H p⟩
end GDC

/-! enumerate of a list or a tuple that stood at an earlier heap -/
namespace GEH
open PySem PySem.Spec PyProof.Rows L2 GE
def iEnumH (K : PySem.W.Frag) (ta : TA) : TI := fun σ H R => ta σ H fun vs H1 => ∃ a xs H0, vs = [.ref a] ∧ PH.Sq K H0 a xs ∧ L2.Same H0 H1 ∧
  ∀ (J : It) (G : Hp → Prop), Walk J xs.length G (YPair (fun i => some (.int (i : Nat))) (fun i => xs[i]?)) → (∀ H', L2.Same H0 H' → G H') → R J H1
theorem pi_enumH {X : Cx} {e : Expr} {ta : TA} {p pos tpos : Pos} {elts : List Expr} {kk : Nat} (hg : Gl X "enumerate") (hm : X.mg "enumerate" = none) (ha : PA X [e] ta) (hs : starEach [e] X.env = [(false, eval e X.env)] := by rfl) :
    PI X (.Tuple elts kk tpos) (.Call (.Name "enumerate" p) [e] [] pos) (iEnumH X.K ta) := by
  refine ⟨fun pins s σ H R I h => ?_⟩
  refine Call_ (ld_blt I hg hm boot_enumerate (PyProof.Rows.callWith_type1 (thn (ha.run pos pins s σ H _ I h) fun us s1 ⟨vs, H1, I1, r1, q1⟩ => ?_) hs rfl))
  obtain ⟨a, xs, H0, ex, hq0, sm, q⟩ := q1
  subst ex
  have hq := hq0.same sm
  have top : ∀ b, b ∈ [s1.heap.objs.size + 1, s1.heap.objs.size] → s1.heap.objs.size ≤ b := fun b hb => by
    have e' : b = s1.heap.objs.size + 1 ∨ b = s1.heap.objs.size := by simpa using hb
    rcases e' with z | z
    · rw [z]; exact Nat.le_add_right _ _
    · rw [z]; exact Nat.le_refl _
  cases r1 with
  | cons r rr =>
    cases rr
    cases r
    rcases hq0 with hq0 | hq0
    · obtain ⟨its, rv, p', hz⟩ := I1.list (sm.seq hq0)
      refine call_enumerate_list p'.isList fun h' he hit hsz hk => wpAny_pyIter_enum he ?_
      have I2 : Inv X pins σ H1 { s1 with heap := h' } := I1.kept (t' := s1.toks) hk
      exact ⟨s1.heap.objs.size + 1, [s1.heap.objs.size + 1, s1.heap.objs.size], _, _, H1, rfl, I2, turn_enum a (s1.heap.objs.size + 1) s1.heap.objs.size, ⟨⟨.none, he⟩, hit, Nat.succ_ne_self _⟩, fun b hb => I1.fpOk (top b hb) (I1.hok.fresh (top b hb)), q _ _ walk_enum fun H' s => s.seq hq0⟩
    · obtain ⟨its, rv, p', hz⟩ := I1.tuple (KA.SqT_same sm hq0)
      have p2 : s1.heap.IsTuple a its.toArray := p'
      refine call_enum1 (begins_tuple a its.toArray) p2 fun h' he hit hsz hk => wpAny_pyIter_enum he ?_
      have I2 : Inv X pins σ H1 { s1 with heap := h' } := I1.kept (t' := s1.toks) hk
      exact ⟨s1.heap.objs.size + 1, [s1.heap.objs.size + 1, s1.heap.objs.size], _, _, H1, rfl, I2, turn_enumT a (s1.heap.objs.size + 1) s1.heap.objs.size, ⟨⟨.none, he⟩, ⟨_, hit, rfl, rfl⟩, Nat.succ_ne_self _⟩, fun b hb => I1.fpOk (top b hb) (I1.hok.fresh (top b hb)), q _ _ walk_enumT fun H' s => KA.SqT_same s hq0⟩
end GEH

/-! set(xs) of a list of tuples of ints of any length, with few distinct ones -/
namespace KST
open PySem PySem.Spec PyProof.Rows L2
section
variable {P : Program} {w : World} {A : Around} {E : Value → Shared → Prop} {s : Shared}
/-- few distinct tuples stand in a list -/
def Few (ks : List (Addr × List Int)) : Prop := ∀ L : List (Addr × List Int), (∀ p ∈ L, p ∈ ks) → (L.map (·.2)).Nodup → L.length + 1 < 64
/-- what the set has of the tuples seen -/
structure Seen (don L : List (Addr × List Int)) : Prop where
  sub : ∀ p ∈ L, p ∈ don
  all : ∀ p ∈ don, p.2 ∈ L.map (·.2)
theorem Seen.snoc {don L L' : List (Addr × List Int)} {p : Addr × List Int} (g : Seen don L) (h1 : p.2 ∈ L.map (·.2) → L' = L) (h2 : p.2 ∉ L.map (·.2) → L'.Perm ((p.1, p.2) :: L)) : Seen (don ++ [p]) L' := by
  by_cases c : p.2 ∈ L.map (·.2)
  · rw [h1 c]
    refine ⟨fun q hq => List.mem_append_left _ (g.sub q hq), fun q hq => ?_⟩
    rcases List.mem_append.mp hq with z | z
    · exact g.all q z
    · rw [List.mem_singleton.mp z]; exact c
  · have pm := h2 c
    refine ⟨fun q hq => ?_, fun q hq => ?_⟩
    · rcases List.mem_cons.mp (pm.mem_iff.mp hq) with z | z
      · rw [z]; exact List.mem_append_right _ List.mem_cons_self
      · exact List.mem_append_left _ (g.sub q z)
    · refine (pm.map (·.2)).mem_iff.mpr ?_
      rw [List.map_cons]
      rcases List.mem_append.mp hq with z | z
      · exact List.mem_cons_of_mem _ (g.all q z)
      · rw [List.mem_singleton.mp z]; exact List.mem_cons_self
theorem run_tups {I : Addr} {fp wr : List Addr} {G : Array GenState → Array GenState → Prop} {n : Nat} {Pv : Nat → Value → Prop} {St : Nat → Shared → Prop} {R : Result → Shared → Prop}
    (W : WalksS P w A.in1 I fp wr G n Pv St) (S : Addr) (nS : S ∉ fp) (ks : List (Addr × List Int)) (hn : n = ks.length) (few : Few ks) (hval : ∀ i v, Pv i v → ∃ p, ks[i]? = some p ∧ v = .ref p.1)
    (h0 : Heap) (hk : ∀ p ∈ ks, IsT P w h0 p.2 p.1) (fS : h0.get? S = none) (fw : ∀ b ∈ wr, h0.get? b = none) (hu : A.in1.units < cLine) :
    ∀ (rest don : List (Addr × List Int)) (s : Shared) (L : List (Addr × List Int)) (es : Array (Int × Value)) (ep : Nat) (t : SetTable), ks = don ++ rest → St don.length s → (∀ b o, h0.get? b = some o → s.heap.get? b = some o) → SetTR P w s.heap S L es ep t → Seen don L →
      (∀ s' L es ep t, Moved (S :: wr) G s s' → SetTR P w s'.heap S L es ep t → Seen ks L → (∀ b o, h0.get? b = some o → s'.heap.get? b = some o) → R (.ok (.ret .none)) s') →
      codeAny (model P w) A (.builtin "set.update.loop" ⟨[.ref S, .ref I], []⟩) R s := by
  have up : ∀ b ∈ wr, b ∈ S :: wr := fun b hb => List.mem_cons_of_mem _ hb
  have nw : S ∉ wr := fun z => nS (W.sub _ z)
  have step : ∀ {s s' : Shared}, Moved wr G s s' → (∀ b o, h0.get? b = some o → s.heap.get? b = some o) → ∀ b o, h0.get? b = some o → s'.heap.get? b = some o := fun mv k b o e =>
    mv.heap b o (fun z => by rw [fw b z] at e; cases e) (k b o e)
  intro rest
  induction rest with
  | nil =>
    intro don s L es ep t hd hst kp RS g hR
    rw [List.append_nil] at hd
    subst hd
    refine codeAny_builtin F.entry_set_update_loop ?_
    rw [Around.under_plainId F.plain_set_update_loop _]
    show wpAny _ A.in1 (pyNext (.ref I) >>= _) _ _ s
    refine wpAny_bind (W.done s _ _ (by rw [hn]; exact hst) fun s' mv => ?_)
    have kp2 := step mv kp
    exact (show wpAny _ A.in1 (ret Value.none) _ _ s' from wpAny_pure (hR s' L es ep t (mv.mono up) (RS.keep (fun o e => mv.heap S o nw e) fun p hp => isT_keep (hk p (g.sub p hp)) kp2) g kp2))
  | cons p rest ih =>
    intro don s L es ep t hd hst kp RS g hR
    have hp : ks[don.length]? = some p := by rw [hd, List.getElem?_append_right (Nat.le_refl _), Nat.sub_self]; rfl
    have pin : ∀ q ∈ don, q ∈ ks := fun q hq => by rw [hd]; exact List.mem_append_left _ hq
    refine codeAny_builtin F.entry_set_update_loop ?_
    rw [Around.under_plainId F.plain_set_update_loop _]
    show wpAny _ A.in1 (pyNext (.ref I) >>= _) _ _ s
    refine wpAny_bind (W.item don.length s _ _ (by rw [hn, hd, List.length_append, List.length_cons]; omega) hst fun v s' pv hst2 mv => ?_)
    obtain ⟨p', e1, rfl⟩ := hval _ v pv
    rw [hp] at e1
    obtain rfl := Option.some.inj e1
    have kp2 := step mv kp
    have RS2 : SetTR P w s'.heap S L es ep t := RS.keep (fun o e => mv.heap S o nw e) fun q hq => isT_keep (hk q (pin q (g.sub q hq))) kp2
    have hx : IsT P w s'.heap p.2 p.1 := isT_keep (hk p (List.mem_of_getElem? hp)) kp2
    show wpAny _ A.in1 (holding [Value.ref p.1] (setAdd S (.ref p.1)) >>= _) _ _ s'
    refine wpAny_bind (wpAny_holding ?_)
    unfold setAdd
    refine wpAny_holding (wpAny_bind (wpAny_pyHash_tuple hu hx ?_))
    refine add_at (s := { s' with toks := s'.toks + (p.2.length + 1) }) RS2 hx hu (few L (fun q hq => pin q (g.sub q hq)) RS2.nd) fun b h' L' es' ep' t' sb RS3 c1 c2 => ?_
    have kp3 : ∀ b o, h0.get? b = some o → h'.get? b = some o := fun b o e => (sb.2 b (fun z => by rw [z, fS] at e; cases e)).trans (kp2 b o e)
    refine wpAny_pure ⟨plainId_quiet F.plain_set_update_loop _, ih (don ++ [p]) _ L' es' ep' t' (by rw [hd, List.append_assoc]; rfl) ?_ kp3 RS3 (g.snoc c1 c2) fun s2 L2 es2 ep2 t2 mv2 RS4 g2 kp4 => ?_⟩
    · rw [List.length_append]
      exact W.frame _ s' _ _ hst2 (Nat.le_add_right _ _) fun b hb o e => by rw [sb.2 b (fun z : b = S => nS (by rw [← z]; exact hb))]; exact e
    · refine hR s2 L2 es2 ep2 t2 (Moved.trans W.gtrans ((mv.mono up).then_heap (Nat.le_add_right _ _) fun b o hb e => ?_) mv2) RS4 g2 kp4
      rw [sb.2 b (fun z : b = S => hb (by rw [z]; exact List.mem_cons_self))]
      exact e
theorem set_tups {l : Addr} {its : Array Value} (ks : List (Addr × List Int)) {Q : Value → Shared → Prop} (hh : A.handled = none) (hl : s.heap.IsList l its) (hit : its.toList = ks.map fun p => Value.ref p.1)
    (hk : ∀ p ∈ ks, IsT P w s.heap p.2 p.1) (few : Few ks) (hu0 : A.units + 64 < cLine)
    (h : ∀ (g : Heap) (tk : Nat) L es ep t, SetTR P w g s.heap.objs.size L es ep t → Seen ks L → (∀ b o, s.heap.get? b = some o → g.get? b = some o) → Q (.ref s.heap.objs.size) { s with heap := g, toks := tk }) :
    wpAny (model P w) A (call (.type "set") [.ref l]) Q E s := by
  have hu : A.units + 3 < cLine := by omega
  have hn : its.size = ks.length := by
    have q := congrArg List.length hit
    rwa [Array.length_toList, List.length_map] at q
  obtain ⟨c0, t0, hm⟩ := F.called_set.mro
  have k1 := F.called_set.made; have k2 := F.called_set.sub; have k3 := F.called_set.notType; have k4 := F.called_set.canCreate; have k5 := F.typeCall_set_1 (.ref l)
  refine wpAny_call (codeAny_of_tree (show wpAny _ _ (callAny (.type "set") _) _ _ _ from ?_))
  have uu : A.under (.builtin "type.__call__" ⟨[.type "set", .ref l], []⟩) = A.in1 := Around.under_plain (weight_type_call_type "set" [.ref l] []) rfl
  refine wpAny_pure ⟨Code.quiet_builtin _ (by decide +kernel), codeAny_builtin F.entry_type_call ?_⟩
  rw [show A.under (.builtin "type.__call__" { ({ pos := [Value.ref l] } : Args) with pos := .type "set" :: [Value.ref l] }) = A.in1 from uu]
  repeat (any_goals (first | assumption | wp_step))
  have hs0 : (s.heap.push (KS.leer w)).get? s.heap.objs.size = some (KS.leer w) := Heap.get?_push_size _ rfl
  refine codeAny_mono (code_set_led1 (.ref l) (E := E) (Q₁ := fun x s1 => x = .ref s.heap.objs.size ∧ s1 = { s with heap := s.heap.push (KS.leer w) }) ⟨rfl, rfl⟩) fun r1 s1 e1 => ?_
  match r1, e1 with
  | .error _, e1 => exact e1
  | .ok (.next), e1 => exact e1.elim
  | .ok (.brk), e1 => exact e1.elim
  | .ok (.cont), e1 => exact e1.elim
  | .ok (.ret x), e1 =>
    obtain ⟨rfl, rfl⟩ := e1
    have hT : Shared.TypeIs { s with heap := s.heap.push (KS.leer w) } (.ref s.heap.objs.size) "set" := ⟨_, hs0, rfl⟩
    have j1 := F.called_set.init.lookup; have j2 := F.called_set.init.bind (.ref s.heap.objs.size)
    repeat (any_goals (first | assumption | wp_step))
    refine codeAny_mono (codeAny_call_builtin (R := wants (fun v s2 => v = .none ∧ ∃ g tk L es ep t, s2 = { s with heap := g, toks := tk } ∧ SetTR P w g s.heap.objs.size L es ep t ∧ Seen ks L ∧ ∀ b o, s.heap.get? b = some o → g.get? b = some o) E)
      F.called_set.init.plain F.entry_set_init (check_set_init_1 hT ?_)) fun r2 s2 e2 => ?_
    · obtain ⟨ol, a1, a2, nl, a3⟩ := hl
      obtain ⟨xc, xd, xt, xs⟩ := ol
      simp only at a2 a3
      subst a2 a3
      have a4 : (s.heap.push (KS.leer w)).get? l = some { cls := .type "list", dict := xd, data := .seq its nl, slots := xs } := Heap.get?_push_of_some _ a1
      have b1 := F.sub_list_set; have b2 := F.sub_list_frozenset; have b3 : (Value.type "list" == Value.type "dict") = false := by decide
      have a5 : (s.heap.push (KS.leer w)).IsList l its := ⟨_, a4, rfl, nl, rfl⟩
      unfold Builtin.«set.__init__» noKeywords Builtin.Frozenset.updateFrom
      generalize hPI : pyIter = PI
      wp_walk
      subst hPI
      refine wpAny_pyIter_list a5 (wpAny_bind (wpAny_runValue ?_))
      have lt := Heap.lt_size a1
      have sz : (s.heap.push (KS.leer w)).objs.size = s.heap.objs.size + 1 := Heap.size_push ..
      have d1 : l ≠ (s.heap.push (KS.leer w)).objs.size := by rw [sz]; exact Nat.ne_of_lt (Nat.lt_succ_of_lt lt)
      have d2 : s.heap.objs.size ∉ [(s.heap.push (KS.leer w)).objs.size, l] := by
        rw [sz]; intro z; rcases List.mem_cons.mp z with z | z
        · exact absurd z (Nat.ne_of_lt (Nat.lt_succ_self _))
        · exact absurd (List.mem_singleton.mp z) (Nat.ne_of_gt lt)
      have vl : ∀ (i : Nat) (v : Value), its[i]? = some v → ∃ p, ks[i]? = some p ∧ v = Value.ref p.1 := fun i v e => by
        have e2 : its.toList[i]? = some v := by rw [Array.getElem?_toList]; exact e
        rw [hit, List.getElem?_map] at e2
        obtain ⟨p, e3, e4⟩ := Option.map_eq_some_iff.mp e2
        exact ⟨p, e3, e4.symm⟩
      have none_at : ∀ b, s.heap.objs.size ≤ b → s.heap.get? b = none := fun b hb => by
        cases q : s.heap.get? b with
        | none => rfl
        | some o => exact absurd (Nat.lt_of_lt_of_le (Heap.lt_size q) hb) (Nat.lt_irrefl _)
      have hq : A.in1.in1.in1.handled = none := by simp [hh]
      refine run_tups ((Walks.list hq _ l d1 its).toS) s.heap.objs.size d2 ks hn few vl s.heap hk (none_at _ (Nat.le_refl _)) (fun b hb => none_at b (by rw [List.mem_singleton.mp hb, sz]; omega)) hu ks [] _ [] #[] 0 _ rfl ⟨⟨_, Heap.get?_push_size _ rfl, rfl, rfl⟩, a5.push _⟩
        (fun b o e => Heap.get?_push_of_some _ (Heap.get?_push_of_some _ e)) (setTR_fresh (Heap.get?_push_of_some _ hs0)) ⟨fun p z => (nomatch z), fun p z => (nomatch z)⟩ fun s3 L3 es3 ep3 t3 mv R3 g3' kp3 => ?_
      obtain ⟨g3, gg, dd, tk3, oo⟩ := s3
      obtain rfl : gg = s.gens := mv.gens
      obtain rfl : dd = s.drawn := mv.drawn
      obtain rfl : oo = s.os := mv.os
      exact (show wpAny _ _ _ _ _ _ from wpAny_pure (show wpAny _ _ (ret Value.none) _ _ _ from wpAny_pure ⟨rfl, g3, tk3, L3, es3, ep3, t3, rfl, R3, g3', kp3⟩))
    · match r2, e2 with
      | .error _, e2 => exact e2
      | .ok (.next), e2 => exact e2.elim
      | .ok (.brk), e2 => exact e2.elim
      | .ok (.cont), e2 => exact e2.elim
      | .ok (.ret y), e2 =>
        obtain ⟨rfl, g, tk, L, es, ep, t, rfl, R2, hc, hk2⟩ := e2
        repeat (any_goals (first | assumption | wp_step))
        exact h _ _ _ _ _ _ R2 hc hk2
end
section
variable {X : Cx}
/-- set(xs) of a list of tuples of ints, few of them distinct -/
def rSetF (K : PySem.W.Frag) (P : Program) (w : World) : List V → Hp → VK → Prop := fun xs H Q => ∃ (l : Addr) (ks : List (Addr × List Int)), xs = [V.ref l] ∧ SqL K H l (ks.map fun p => V.ref p.1) ∧ (∀ p ∈ ks, SqT K H p.1 (p.2.map V.int)) ∧ Few ks ∧
  ∀ a L, H a = none → (∀ p ∈ L, p ∈ ks) → (∀ p ∈ ks, p.2 ∈ L.map (·.2)) → Q (.ref a) (upd H a (SetTO P w a L))
theorem cr_setF (hc : X.calm = true) (hu : X.A.units + 64 < cLine) : CallR X (.type "set") (rSetF X.K X.prog X.w) := by
  intro pins s σ H xs us Q I r h
  obtain ⟨l, ks, rfl, hl, hk, hf, q⟩ := h
  rw [Vals.ref1 r]
  obtain ⟨its, rv, pl, hz⟩ := I.list hl
  refine set_tups (P := X.prog) (w := X.w) ks (I.ok.hd hc) pl.isList (by simpa using refs_of_vals rv) (fun p hp => I.isT (hk p hp)) hf hu fun g tk L es ep t R sn k => ?_
  exact ⟨.ref s.heap.objs.size, upd H s.heap.objs.size (SetTO X.prog X.w s.heap.objs.size L), I.laid (t' := tk) k (Nat.le_refl _) (setTO_new R.t0), rfl, q _ L (I.hok.fresh (Nat.le_refl _)) sn.sub sn.all⟩
end
end KST

set_option pp.maxSteps 900
/-! the crowd of two lists of ranges -/
namespace CR
open PySem PySem.Spec PyProof.Rows L2 KA KD PH PM RM RN K55 K55b K55c K55d P5P P5N P5I K58a
abbrev sCR : Stmt := topS 21
theorem scCR : FnScope ["first", "second", "places", "place", "owners", "waiting", "crowd", "inner", "outer", "at"] ["first", "second", "places"] (defScope sCR) := ⟨rfl, rfl, rfl, by decide +kernel, rfl, by decide +kernel, by decide +kernel⟩
theorem look_in : ∀ {l : List (Nat × Option Nat)} {a : Nat} {x : Option Nat}, l.lookup a = some x → (a, x) ∈ l
  | [], _, _, h => by simp at h
  | (b, y) :: l, a, x, h => by
    rw [List.lookup_cons] at h
    by_cases e : a = b
    · subst e
      simp at h
      rw [h]
      exact List.mem_cons_self
    · have : (a == b) = false := by simpa using e
      rw [this] at h
      exact List.mem_cons_of_mem _ (look_in h)
/-! what was found, by its owners -/
def og (l : List (Nat × Option Nat)) (i : Nat) : Option Nat := match l.lookup i with
  | some (some p) => some p | _ => none
def itV : Option Nat → V
  | some p => .int (p : Int) | none => .non
def ow (n : Nat) (l : List (Nat × Option Nat)) : List (Nat × Nat) := (List.range n).filterMap fun i => (og l i).map fun p => (i, p)
theorem res_og (l : List (Nat × Option Nat)) (n : Nat) : res l n = (List.range n).map fun i => itV (og l i) := by
  unfold res
  refine List.map_congr_left fun i _ => ?_
  unfold og
  cases h : l.lookup i with
  | none => rfl
  | some o => cases o <;> rfl
theorem res_at {l : List (Nat × Option Nat)} {n i : Nat} {y : V} (h : (res l n)[i]? = some y) : i < n ∧ y = itV (og l i) := by
  rw [res_og, List.getElem?_map] at h
  obtain ⟨j, hj, e⟩ := Option.map_eq_some_iff.mp h
  have hi := (List.getElem?_eq_some_iff.mp hj).1
  rw [List.length_range] at hi
  rw [List.getElem?_range hi] at hj
  cases hj
  exact ⟨hi, e.symm⟩
theorem ow_succ (l : List (Nat × Option Nat)) (i : Nat) : ow (i + 1) l = ow i l ++ (match og l i with | some p => [(i, p)] | none => []) := by
  unfold ow
  rw [List.range_succ, List.filterMap_append]
  congr 1
  rw [List.filterMap_cons]
  cases og l i <;> rfl
theorem ow_mem {l : List (Nat × Option Nat)} {n i p : Nat} : (i, p) ∈ ow n l ↔ i < n ∧ og l i = some p := by
  unfold ow
  rw [List.mem_filterMap]
  constructor
  · rintro ⟨j, hj, e⟩
    obtain ⟨q, e1, e2⟩ := Option.map_eq_some_iff.mp e
    cases e2
    exact ⟨List.mem_range.mp hj, e1⟩
  · rintro ⟨h, e⟩
    exact ⟨i, List.mem_range.mpr h, by rw [e]; rfl⟩
theorem ow_keys (l : List (Nat × Option Nat)) : ∀ n, ((ow n l).map (·.1)).Nodup ∧ ∀ x ∈ (ow n l).map (·.1), x < n
  | 0 => ⟨List.nodup_nil, fun _ h => (List.not_mem_nil h).elim⟩
  | n + 1 => by
    obtain ⟨h1, h2⟩ := ow_keys l n
    rw [ow_succ, List.map_append]
    cases e : og l n with
    | none => exact ⟨by simpa using h1, fun x hx => by rw [List.map_nil, List.append_nil] at hx; have := h2 x hx; omega⟩
    | some p =>
      refine ⟨List.nodup_append.mpr ⟨h1, by simp, fun x hx y hy => ?_⟩, fun x hx => ?_⟩
      · have := h2 x hx
        rw [show y = n by simpa using hy]
        omega
      · rcases List.mem_append.mp hx with z | z
        · have := h2 x z; omega
        · rw [show x = n by simpa using z]; omega
theorem og_look {l : List (Nat × Option Nat)} (nd : (l.map (·.1)).Nodup) {a p : Nat} : og l a = some p ↔ (a, some p) ∈ l := by
  unfold og
  constructor
  · intro h
    split at h
    · rename_i q e
      cases h
      exact look_in e
    · cases h
  · intro h
    rw [look_nodup h nd]
theorem og_none {l : List (Nat × Option Nat)} (nd : (l.map (·.1)).Nodup) {a : Nat} (ha : a ∈ l.map (·.1)) (h : og l a = none) : (a, none) ∈ l := by
  obtain ⟨⟨b, o⟩, hb, rfl⟩ := List.mem_map.mp ha
  cases o with
  | none => exact hb
  | some p =>
    rw [(og_look nd).mpr hb] at h
    cases h
section
variable {rs ss : List (Int × Int)} {L fr0 : List Nat}
/-- one without a place: the search's base -/
theorem base_of (pL : L.Perm (List.range rs.length)) (oL : L.Pairwise (ordL rs)) (pf : fr0.Perm (List.range ss.length)) (sf : (fr0.map (K55d.pr (at0 ss))).Pairwise Le) {a : Nat} (ha : a < rs.length) (hn : og (go (at0 rs) (at0 ss) L fr0) a = none) :
    ∃ S : Nat × Nat → Prop, Base (at0 rs) (at0 ss) rs.length ss.length a S (ow rs.length (go (at0 rs) (at0 ss) L fr0)) := by
  have nd0 : fr0.Nodup := pf.nodup_iff.mpr List.nodup_range
  have ndL : L.Nodup := pL.nodup_iff.mpr List.nodup_range
  have hm : ∀ q, q ∈ fr0 ↔ q < ss.length := fun q => by rw [pf.mem_iff, List.mem_range]
  have hL : ∀ x, x ∈ L ↔ x < rs.length := fun x => by rw [pL.mem_iff, List.mem_range]
  have srt : fr0.Pairwise fun p q => (at0 ss p).2 ≤ (at0 ss q).2 := (List.pairwise_map.mp sf).imp fun {x y} h => by
    simp only [Le, K55d.pr] at h
    omega
  have v0 : Inv (at0 rs) (at0 ss) fr0 [] fr0 := ⟨fun q => ⟨fun h => ⟨h, fun _ z => (List.not_mem_nil z).elim⟩, fun h => h.1⟩, nd0, srt, fun _ z => (List.not_mem_nil z).elim, List.nodup_nil, fun i e q h => by simp at h⟩
  have ndk : ((go (at0 rs) (at0 ss) L fr0).map (·.1)).Nodup := by rw [go_keys]; exact ndL
  have low : (([] : List (Nat × Nat)).map (fun e => (at0 rs e.1).1) ++ L.map (fun a => (at0 rs a).1)).Pairwise (· ≤ ·) := by
    simpa using (List.pairwise_map.mpr (oL.imp fun {x y} h => ord_low h))
  obtain ⟨S, s1, s2⟩ := closed hm L fr0 [] v0 low a (og_none ndk (by rw [go_keys]; exact (hL a).mpr ha) hn)
  obtain ⟨fr2, iv⟩ := go_end L fr0 [] v0
  have iv : Inv (at0 rs) (at0 ss) fr0 (won (go (at0 rs) (at0 ss) L fr0)) fr2 := by simpa using iv
  have mem : ∀ e, e ∈ ow rs.length (go (at0 rs) (at0 ss) L fr0) ↔ e ∈ won (go (at0 rs) (at0 ss) L fr0) := fun e => by
    obtain ⟨i, p⟩ := e
    rw [ow_mem, won_mem, og_look ndk]
    refine ⟨fun h => h.2, fun h => ⟨?_, h⟩⟩
    have : i ∈ (go (at0 rs) (at0 ss) L fr0).map (·.1) := List.mem_map.mpr ⟨_, h, rfl⟩
    rw [go_keys] at this
    exact (hL i).mp this
  have ndw : (won (go (at0 rs) (at0 ss) L fr0)).Nodup := List.Pairwise.of_map _ (fun _ _ h e => h (by rw [e])) iv.inj
  have ndo : (ow rs.length (go (at0 rs) (at0 ss) L fr0)).Nodup := List.Pairwise.of_map _ (fun _ _ h e => h (by rw [e])) (ow_keys _ _).1
  have pm : (ow rs.length (go (at0 rs) (at0 ss) L fr0)).Perm (won (go (at0 rs) (at0 ss) L fr0)) := (List.perm_ext_iff_of_nodup ndo ndw).mpr mem
  refine ⟨S, (ow_keys _ _).1, (pm.map (·.2)).nodup_iff.mpr iv.inj, fun e he => (ow_keys _ _).2 e.1 (List.mem_map.mpr ⟨e, he, rfl⟩), ha, fun z => ?_, fun e he => (mem e).mpr (by simpa using s1 e he), s2⟩
  obtain ⟨⟨i, p⟩, he, e⟩ := List.mem_map.mp z
  cases e
  rw [(ow_mem.mp he).2] at hn
  cases hn
end
/-! the owners as a dict -/
def dkv (O : List (Nat × Nat)) : List (L2.Key × V) := O.map fun e => (Sum.inl (e.2 : Int), V.int (e.1 : Int))
theorem dkv_none : ∀ {O : List (Nat × Nat)} {j : Nat}, valV (dkv O) (Sum.inl (j : Int)) = none ↔ j ∉ O.map (·.2)
  | [], j => by simp [dkv, valV]
  | e :: O, j => by
    show valV ((Sum.inl (e.2 : Int), V.int (e.1 : Int)) :: dkv O) (Sum.inl (j : Int)) = none ↔ _
    by_cases h : e.2 = j
    · rw [valV_pos (by rw [h])]
      simp [h]
    · rw [valV_neg (fun z => h (by have := Sum.inl.inj z; omega)), dkv_none]
      simp [Ne.symm h]
theorem dkv_some : ∀ {O : List (Nat × Nat)} {j : Nat} {v : V}, valV (dkv O) (Sum.inl (j : Int)) = some v → ∃ i : Nat, v = .int (i : Int) ∧ (i, j) ∈ O
  | [], j, v, h => by simp [dkv, valV] at h
  | e :: O, j, v, h => by
    have h : valV ((Sum.inl (e.2 : Int), V.int (e.1 : Int)) :: dkv O) (Sum.inl (j : Int)) = some v := h
    by_cases he : e.2 = j
    · rw [valV_pos (by rw [he])] at h
      exact ⟨e.1, (Option.some.inj h).symm, by rw [← he]; exact List.mem_cons_self⟩
    · rw [valV_neg (fun z => he (by have := Sum.inl.inj z; omega))] at h
      obtain ⟨i, h1, h2⟩ := dkv_some h
      exact ⟨i, h1, List.mem_cons_of_mem _ h2⟩
theorem dkv_drop (O : List (Nat × Nat)) (j : Nat) : dropK (dkv O) (Sum.inl (j : Int)) = dkv (O.filter fun e => decide (e.2 ≠ j)) := by
  unfold dropK dkv
  rw [List.filter_map]
  congr 1
  refine List.filter_congr fun e _ => ?_
  show decide ((Sum.inl (e.2 : Int) : L2.Key) ≠ Sum.inl (j : Int)) = decide (e.2 ≠ j)
  by_cases h : e.2 = j
  · simp [h]
  · have : ¬ ((e.2 : Int) = (j : Int)) := by omega
    simp [h, this]
theorem ow_perm : ∀ {O : List (Nat × Nat)} {i j : Nat}, (O.map (·.2)).Nodup → (i, j) ∈ O → O.Perm ((i, j) :: O.filter fun e => decide (e.2 ≠ j))
  | [], _, _, _, h => (List.not_mem_nil h).elim
  | e :: O, i, j, nd, h => by
    have nd2 := List.nodup_cons.mp nd
    rw [List.filter_cons]
    rcases List.mem_cons.mp h with z | z
    · rw [← z]
      have hk : O.filter (fun e => decide (e.2 ≠ j)) = O := List.filter_eq_self.mpr fun x hx => by
        have : x.2 ≠ j := fun q => nd2.1 (by rw [← z]; exact List.mem_map.mpr ⟨x, hx, q⟩)
        simpa using this
      rw [if_neg (by simp), hk]
    · have ne : e.2 ≠ j := fun q => nd2.1 (by show e.2 ∈ _; rw [q]; exact List.mem_map.mpr ⟨_, z, rfl⟩)
      rw [if_pos (by simpa using ne)]
      exact (List.Perm.cons e (ow_perm nd2.2 z)).trans (List.Perm.swap _ _ _)
theorem dkv_len (O : List (Nat × Nat)) : (dkv O).length = O.length := List.length_map _
theorem dkv_app (O O2 : List (Nat × Nat)) : dkv (O ++ O2) = dkv O ++ dkv O2 := List.map_append
theorem first_none {l : List (Nat × Option Nat)} {n : Nat} (h : V.non ∈ res l n) : ∃ j, j < n ∧ og l j = none ∧ ∀ m, m < j → og l m ≠ none := by
  rw [res_og] at h
  obtain ⟨i, hi, e⟩ := List.mem_map.mp h
  have e : og l i = none := by
    cases z : og l i with
    | none => rfl
    | some p => rw [z] at e; cases e
  have : ∀ k i, i ≤ k → og l i = none → ∃ j, j ≤ i ∧ og l j = none ∧ ∀ m, m < j → og l m ≠ none := by
    intro k
    induction k with
    | zero => intro i hi e; exact ⟨i, Nat.le_refl _, e, fun m hm => by omega⟩
    | succ k ih =>
      intro i hi e
      by_cases h : ∃ m, m < i ∧ og l m = none
      · obtain ⟨m, h1, h2⟩ := h
        obtain ⟨j, g1, g2⟩ := ih m (by omega) h2
        exact ⟨j, by omega, g2⟩
      · exact ⟨i, Nat.le_refl _, e, fun m hm z => h ⟨m, hm, z⟩⟩
  obtain ⟨j, h1, h2⟩ := this i i (Nat.le_refl _) e
  exact ⟨j, by have := List.mem_range.mp hi; omega, h2⟩
def nI (W : List Nat) : List V := W.map fun (i : Nat) => V.int (i : Int)
theorem pairs_ks {H : Hp} : ∀ {xs : List V} {rs : List (Int × Int)}, PairsAt H xs rs → ∃ ks : List (Addr × List Int), xs = ks.map (fun p => V.ref p.1) ∧ ks.map (·.2) = rs.map (fun r => [r.1, r.2]) ∧ ∀ p ∈ ks, H p.1 = some (.tup (p.2.map V.int)) ∧ ∃ r ∈ rs, p.2 = [r.1, r.2]
  | [], [], _ => ⟨[], rfl, rfl, fun _ z => (List.not_mem_nil z).elim⟩
  | x :: xs, r :: rs, ⟨⟨p, h1, h2⟩, h3⟩ => by
    obtain ⟨ks, e1, e2, e3⟩ := pairs_ks h3
    refine ⟨(p, [r.1, r.2]) :: ks, by rw [List.map_cons, ← e1, h1], by rw [List.map_cons, List.map_cons, e2], fun q hq => ?_⟩
    rcases List.mem_cons.mp hq with rfl | hq
    · exact ⟨h2, r, List.mem_cons_self, rfl⟩
    · obtain ⟨g1, s, g2, g3⟩ := e3 q hq
      exact ⟨g1, s, List.mem_cons_of_mem _ g2, g3⟩
  | [], _ :: _, h => h.elim
  | _ :: _, [], h => h.elim
theorem pairs_ksb {H : Hp} : ∀ {ks : List (Addr × List Int)}, (∀ p ∈ ks, H p.1 = some (.tup (p.2.map V.int)) ∧ ∃ a b, p.2 = [a, b]) → PairsAt H (ks.map fun p => V.ref p.1) (ks.map fun p => GSP.pr2 p.2)
  | [], _ => trivial
  | p :: ks, h => by
    obtain ⟨h1, a, b, h2⟩ := h p List.mem_cons_self
    refine ⟨⟨p.1, rfl, ?_⟩, pairs_ksb fun q hq => h q (List.mem_cons_of_mem _ hq)⟩
    show H p.1 = some (.tup [.int (GSP.pr2 p.2).1, .int (GSP.pr2 p.2).2])
    rw [h1, h2]
    rfl
theorem pairs_snoc {H : Hp} {p : Addr} {r : Int × Int} (h : H p = some (.tup [.int r.1, .int r.2])) : ∀ {xs : List V} {cs : List (Int × Int)}, PairsAt H xs cs → PairsAt H (xs ++ [.ref p]) (cs ++ [r])
  | [], [], _ => ⟨⟨p, rfl, h⟩, trivial⟩
  | x :: xs, c :: cs, ⟨h1, h2⟩ => ⟨h1, pairs_snoc h h2⟩
  | [], _ :: _, h => h.elim
  | _ :: _, [], h => h.elim
theorem Sq_same {K : PySem.W.Frag} {H H' : Hp} {a : Addr} {xs : List V} (s : Same H H') (h : Sq K H a xs) : Sq K H' a xs := h.same s
theorem snoc_or {α : Type} : ∀ W : List α, W = [] ∨ ∃ W' r, W = W' ++ [r]
  | [] => .inl rfl
  | x :: W => .inr (by
    rcases snoc_or W with rfl | ⟨W', r, rfl⟩
    · exact ⟨[], x, rfl⟩
    · exact ⟨x :: W', r, rfl⟩)
theorem at0_mem {rs : List (Int × Int)} {i : Nat} (h : i < rs.length) : at0 rs i ∈ rs := by
  unfold at0
  rw [List.getElem?_eq_getElem h]
  exact List.getElem_mem h
theorem pr2_pair (r : Int × Int) : GSP.pr2 [r.1, r.2] = r := rfl
theorem lex_le {r s : Int × Int} (h : SrtO.lexB s r = false) : Le r s := by
  have := SrtO.lexB_no.mp h
  simp only [Le]
  omega
theorem cnt_congr {V W rs : List (Int × Int)} (h : ∀ v, v ∈ V ↔ v ∈ W) : rs.countP (K57.ard V) = rs.countP (K57.ard W) := by
  congr 1
  funext r
  unfold K57.ard
  rw [Bool.eq_iff_iff, List.any_eq_true, List.any_eq_true]
  exact ⟨fun ⟨x, h1, h2⟩ => ⟨x, (h x).mp h1, h2⟩, fun ⟨x, h1, h2⟩ => ⟨x, (h x).mpr h1, h2⟩⟩
section
variable {P : Program} {w : World} {K : PySem.W.Frag} {mg : Str → Option Value} {base : Heap}
/-- not too long, and few distinct ones -/
def Fw (rs : List (Int × Int)) : Prop := rs.length ≤ 200 ∧ ∃ DD : List (Int × Int), DD.length ≤ 60 ∧ ∀ r ∈ rs, r ∈ DD
theorem fw_of {rs : List (Int × Int)} (h : rs.length ≤ 60) : Fw rs := ⟨Nat.le_trans h (by decide), rs, h, fun _ z => z⟩
theorem few_of {ks : List (Addr × List Int)} {DD : List (Int × Int)} (l : DD.length ≤ 60) (h : ∀ p ∈ ks, ∃ r ∈ DD, p.2 = [r.1, r.2]) : KST.Few ks := fun L hL nd => by
  have h2 : ∀ v ∈ L.map (·.2), v ∈ DD.map (fun r => [r.1, r.2]) := fun v hv => by
    obtain ⟨p, hp, rfl⟩ := List.mem_map.mp hv
    obtain ⟨r, hr, e⟩ := h p (hL p hp)
    exact List.mem_map.mpr ⟨r, hr, e.symm⟩
  have := K55c.sub_len nd h2
  rw [List.length_map, List.length_map] at this
  omega
def spCR (K : PySem.W.Frag) : Sp := fun vs H Q _ => ∃ (a b c : Addr) (xs ys : List V) (rs ss : List (Int × Int)) (L fr0 : List Nat), vs = [.ref a, .ref b, .ref c] ∧ Sq K H a xs ∧ PairsAt H xs rs ∧ Sq K H b ys ∧ PairsAt H ys ss ∧ Fw rs ∧ ss.length ≤ 500 ∧
  H c = some (.lst (res (go (at0 rs) (at0 ss) L fr0) rs.length)) ∧ V.non ∈ res (go (at0 rs) (at0 ss) L fr0) rs.length ∧ L.Perm (List.range rs.length) ∧ L.Pairwise (ordL rs) ∧ fr0.Perm (List.range ss.length) ∧ (fr0.map (K55d.pr (at0 ss))).Pairwise Le ∧
  ∀ H' p us V_, Same H H' → H p = none → H' p = some (.lst us) → PairsAt H' us V_ → V_.Pairwise Le → V_.Nodup → (∀ v ∈ V_, v ∈ rs) → V_ ≠ [] → ss.countP (K57.ard V_) < rs.countP (K57.ard V_) → Q (.ref p) H'
theorem ok_CR {f fCO : Addr} {fd dCO : FuncData} {k : Nat} (F : Fun K "_crowd" "_crowd" sCR f fd) (GCO : FnOk P w K mg base CX0 (k + 1) fCO dCO ["outer", "inner"] (spCont K)) (gCO : mg "contains" = some (.ref fCO)) (kCO : PySem.W.keepIn K (.ref fCO) = true) (bCO : Binds K dCO ["outer", "inner"] [])
    (me : mg "enumerate" = none) (mso : mg "sorted" = none) (mset : mg "set" = none) : FnOk P w K mg base CX0 (k + 2) f fd ["first", "second", "places"] (spCR K) := by
  refine F.ok scCR (fun vs H Q E h => ?_) (fun cdv A outer s H vs Q E hr h => ?_)
  · obtain ⟨a, b, c, xs, ys, rs, ss, L, fr0, rfl, _⟩ := h
    rfl
  · obtain ⟨a, b, c, xs, ys, rs, ss, L, fr0, rfl, hA, pa, hB, pb, ⟨la, DD, lDD, mDD⟩, lb, hc, hnon, pL, oL, pf, sf, hq⟩ := h
    refine ⟨_, (pss_cons (GDC.ps_setDc (i := 4) (own := [("at", 9), ("place", 3)]) (g := gTup K 2 (gCons (gName 9) (gCons (gName 3) gNil))) rfl scCR.nd rfl rfl (GDC.sw_trueD rfl rfl rfl (by decide +kernel)) (GE.pi_enumS (by rfl) me (pa_cons (pv 2) pa_nil)) (blkOk_by (own := [("at", 9), ("place", 3)]) (N := ["first", "second", "places", "place", "owners", "waiting", "crowd", "inner", "outer", "at"]) (sc := defScope sCR) (by decide +kernel)) (fun _ _ _ _ _ => (pg_tup rfl (pgs_cons (pg_name (i := 9) scCR.nd rfl (Or.inl rfl) (Or.inr rfl)) (pgs_cons (pg_name (i := 3) scCR.nd rfl (Or.inl rfl) (Or.inr rfl)) pgs_nil)))) (fun _ _ _ _ _ => pts_one (pt_cmpR op_notN (pv 3) pe_non (nomark _))) (fun _ _ _ _ _ => (pv 3)) (fun _ _ _ _ _ => (pv 9)))
      (pss_cons (ps_set (i := 5) scCR.nd rfl (.inl rfl) (pe_lst (pa_cons (pe_bm PySem.F.plainAttrs_list PySem.F.slot_list_index PySem.F.type_list_index mt_index (pv 2) (pa_cons pe_non pa_nil)) pa_nil)))
      (pss_cons (ps_set (i := 6) scCR.nd rfl (.inl rfl) (pe_lst pa_nil))
      (pss_cons (ps_while PassesOwn.never (pt_truth (pv 5) (by intro _; rfl))
      (pss_cons (ps_set (i := 7) scCR.nd rfl (.inl rfl) (pe_ix GB.ix_both (pv 0) (pe_bm0 PySem.F.plainAttrs_list PySem.F.slot_list_pop PySem.F.type_list_pop mt_pop (pv 5)) (fun _ _ => rfl)))
      (pss_cons (ps_expr (pe_bm PySem.F.plainAttrs_list PySem.F.slot_list_append PySem.F.type_list_append mt_append (pv 6) (pa_cons (pv 7) pa_nil)))
      (pss_one (ps_for PassesOwn.never rfl (GEH.pi_enumH (by rfl) me (pa_cons (pv 1) pa_nil)) (pg_tup rfl (pgs_cons (pg_name (i := 3) scCR.nd rfl (.inl rfl)) (pgs_cons (pg_name (i := 8) scCR.nd rfl (.inl rfl)) pgs_nil)))
      (pss_one (ps_if (PW.pt (pw_and (pt_cmp (pc_din (hu_of hr) (pv 3) (pv 4))) (pw_and1 (pt_val (pe_call (GCO.mono (show k + 1 ≤ k + 1 by omega)) hr (by rfl) gCO kCO bCO .nil pass0 (pa_cons (pv 8) (pa_cons (pv 7) pa_nil))))))) (pss_one (ps_expr (pe_bm PySem.F.plainAttrs_list PySem.F.slot_list_append PySem.F.type_list_append mt_append (pv 5) (pa_cons (pe_dpop1 (pv 4) (pv 3) ⟨rfl, rfl, rfl, rfl⟩) pa_nil)))) pss_nil)))))))
      (pss_one (ps_ret (pe_callB (GSP.cr_sortedP rfl) (by rfl) mso (by decide +kernel) (pa_cons (pe_callTy (KST.cr_setF rfl hr.units) (by rfl) mset (by decide +kernel) (pa_cons (pv 6) pa_nil)) pa_nil)))))))), ?_⟩
    have l1s : 1 ≤ sizeLine := by decide
    have lxa := pa.length
    have lxb := pb.length
    obtain ⟨a0, ha0, hn0, hmin⟩ := first_none hnon
    obtain ⟨S, bs⟩ := base_of pL oL pf sf ha0 hn0
    generalize go (at0 rs) (at0 ss) L fr0 = l at hc hnon hn0 hmin bs
    have flat := res_flat l rs.length
    have lres : (res l rs.length).length = rs.length := res_len _ _
    -- owners
    refine ⟨.ref c, rfl, c, res l rs.length, rfl, .inl (SqL.of hc), fun J G wk hG D nD => ?_⟩
    have nDc : D ≠ c := fun z => by rw [z, hc] at nD; cases nD
    refine GDC.dc_it wk (fun i Hz => Same H Hz ∧ Hz D = some (.dK (dkv (ow i l)))) ⟨same_new nD, upd_same⟩ (fun i Hz _ z => hG _ z.1) ?_ ?_
    · rintro i v Hz Hy hi ⟨sz, eD⟩ ⟨T, x, y, rfl, nT, rfl, hx, hy⟩
      obtain rfl : V.int (i : Int) = x := Option.some.inj hx
      obtain ⟨hin, rfl⟩ := res_at hy
      have sT := same_new (o := .tup [.int (i : Int), itV (og l i)]) nT
      have s3 := sz.trans sT
      have eD2 := sT _ _ eD
      refine ⟨T, _, rfl, SqT.of upd_same, rfl, .int (i : Int), [itV (og l i)], rfl, itV (og l i), [], rfl, rfl, rfl, ?_⟩
      have es := ow_succ l i
      cases e : og l i with
      | none =>
        rw [e] at es
        have es : ow (i + 1) l = ow i l := by rw [es]; exact List.append_nil _
        refine ⟨.non, rfl, rfl, false, rfl, iteF ⟨?_, ?_⟩⟩
        · rw [← e]; exact s3
        · rw [es, ← e]; exact eD2
      | some p =>
        rw [e] at es
        have nd2 : ((ow (i + 1) l).map (·.2)).Nodup := by
          have := bs.nd2
          refine List.Nodup.sublist (List.Sublist.map _ ?_) this
          unfold ow
          exact List.Sublist.filterMap _ (List.range_sublist.mpr (by omega))
        have nv : valV (dkv (ow i l)) (Sum.inl (p : Int)) = none := dkv_none.mpr fun m => by
          rw [es, List.map_append, List.nodup_append] at nd2
          exact nd2.2.2 p m p (by simp) rfl
        have lo : (ow i l).length ≤ i := by
          unfold ow
          have := List.length_filterMap_le (fun i => (og l i).map fun p => (i, p)) (List.range i)
          rwa [List.length_range] at this
        refine ⟨.int (p : Int), rfl, rfl, true, rfl, iteT ⟨.int (p : Int), rfl, .int (i : Int), rfl, dkv (ow i l), Sum.inl (p : Int), rfl, ?_, small3000 (by rw [dkv_len]; omega), ?_, ?_⟩⟩
        · rw [← e]; exact eD2
        · rw [← e]; exact same_again nD s3
        · rw [upd_same, putK_new _ nv, es, dkv_app]
          rfl
    rintro H1 ⟨s1, eD⟩
    rw [lres] at eD
    have ec1 := s1 _ _ hc
    -- waiting
    refine ⟨.ref c, rfl, .inl ⟨rfl, _, SqL.of ec1⟩, c, res l rs.length, .non, a0, .non, rfl, rfl, SqL.of ec1, rfl, flat, ?_, rfl, fun m z hm hz => ?_, l1s, fun wl nwl => ?_⟩
    · rw [res_og, List.getElem?_map, List.getElem?_range ha0]
      show some (itV (og l a0)) = _
      rw [hn0]
      rfl
    · obtain ⟨_, rfl⟩ := res_at hz
      cases e : og l m with
      | none => exact absurd e (hmin m hm)
      | some p => rfl
    have nwl0 : H wl = none := s1.free nwl
    have nwD : D ≠ wl := ne_of_none eD nwl
    have sw := same_new nwl (o := .lst [.int (a0 : Int)])
    have ew := upd_same (H := H1) (a := wl) (o := .lst [.int (a0 : Int)])
    have eD := sw _ _ eD
    have s2 := s1.trans sw
    generalize upd H1 wl (.lst [.int (a0 : Int)]) = H2 at ew eD s2 ⊢
    clear sw s1 nwl ec1
    -- crowd
    refine ⟨Nat.zero_le _, fun cl ncl => ?_⟩
    have ncl0 : H cl = none := s2.free ncl
    have nDcl : D ≠ cl := ne_of_none eD ncl
    have nwcl : wl ≠ cl := ne_of_none ew ncl
    have sw := same_new ncl (o := .lst [])
    have ecl := upd_same (H := H2) (a := cl) (o := .lst [])
    have eD := sw _ _ eD
    have ew := sw _ _ ew
    have s3 := s2.trans sw
    generalize upd H2 cl (.lst []) = H3 at ecl ew eD s3 ⊢
    clear sw s2 ncl
    have lD0 : (ow rs.length l).length ≤ 200 := by
      unfold ow
      have := List.length_filterMap_le (fun i => (og l i).map fun p => (i, p)) (List.range rs.length)
      rw [List.length_range] at this
      omega
    try simp only [List.set_cons_succ, List.set_cons_zero]
    -- while waiting
    refine ⟨fun n σ Hw => ∃ (R W : List Nat) (O Gs : List (Nat × Nat)) (us : List V), n = O.length + W.length ∧ Same H Hw ∧ Hw D = some (.dK (dkv O)) ∧ Hw wl = some (.lst (nI W)) ∧ Hw cl = some (.lst us) ∧ PairsAt H us (R.map (at0 rs)) ∧ Srch (at0 rs) (at0 ss) rs.length ss.length a0 S (ow rs.length l) R W O Gs ∧ ∃ r3 r7 r8 r9 : Option V, σ = [some (.ref a), some (.ref b), some (.ref c), r3, some (.ref D), some (.ref wl), some (.ref cl), r7, r8, r9],
      ⟨_, [], [a0], ow rs.length l, [], [], rfl, s3, eD, ew, ecl, trivial, Srch.start bs, _, _, _, _, rfl⟩, ?_⟩
    clear eD ew ecl s3
    rintro n σ Hw ⟨R, W, O, Gs, us, rfl, sm, hD, hW, hcl, pu, sr, r3, r7, r8, r9, rfl⟩
    have lR : R.length + W.length ≤ 201 := by
      have e1 := sr.rw'.length_eq
      have e2 := sr.per.length_eq
      rw [List.length_append, List.length_cons, List.length_map] at e1
      rw [List.length_append] at e2
      omega
    refine ⟨.ref wl, rfl, _, .inl ⟨_, SqL.of hW, rfl⟩, ?_⟩
    rcases snoc_or W with rfl | ⟨W', r, rfl⟩
    · refine iteF ?_
      obtain ⟨ks, ex, e2, e3⟩ := pairs_ks (pu.same sm)
      have lk : ks.length = R.length := by
        have := congrArg List.length e2
        rwa [List.length_map, List.length_map, List.length_map] at this
      rw [List.length_nil] at lR
      refine ⟨.ref cl, rfl, cl, ks, rfl, by rw [← ex]; exact SqL.of hcl, fun p hp => SqT.of (e3 p hp).1, few_of lDD (fun p hp => ?_), fun s0 L0 ns_ hL1 hL2 => ?_⟩
      · obtain ⟨_, r, hr, er⟩ := e3 p hp
        obtain ⟨i, hi, rfl⟩ := List.mem_map.mp hr
        exact ⟨_, mDD _ (at0_mem (sr.lt bs (List.mem_append_left _ hi))), er⟩
      have ss1 := same_new ns_ (o := SetTO P w s0 L0)
      refine ⟨s0, L0, rfl, upd_same, fun p hp => SqT.of (ss1 _ _ (e3 p (hL1 p hp)).1), fun p hp => by obtain ⟨_, r, _, er⟩ := e3 p (hL1 p hp); rw [er]; rfl, fun L' so pm ndL l64 pw nso => ?_⟩
      have sso := same_new nso (o := .lst (L'.map fun q => V.ref q.1))
      have s2 := ss1.trans sso
      have inks : ∀ p ∈ L', p ∈ ks := fun p hp => hL1 p (pm.mem_iff.mp hp)
      have mem : ∀ v, v ∈ L'.map (fun q => GSP.pr2 q.2) ↔ v ∈ R.map (at0 rs) := fun v => by
        constructor
        · intro h
          obtain ⟨q, hq1, rfl⟩ := List.mem_map.mp h
          obtain ⟨_, r, hr, g2⟩ := e3 q (inks q hq1)
          rw [g2, pr2_pair]
          exact hr
        · intro h
          have : [v.1, v.2] ∈ ks.map (·.2) := by rw [e2]; exact List.mem_map.mpr ⟨v, h, rfl⟩
          obtain ⟨q, hq1, hq2⟩ := List.mem_map.mp this
          obtain ⟨q', hq3, hq4⟩ := List.mem_map.mp (hL2 q hq1)
          exact List.mem_map.mpr ⟨q', pm.mem_iff.mpr hq3, by rw [hq4, hq2, pr2_pair]⟩
      refine hq _ so _ (L'.map fun q => GSP.pr2 q.2) (sm.trans s2) ((sm.trans ss1).free nso) upd_same (pairs_ksb fun p hp => ?_) ?_ ?_ (fun v hv => ?_) (fun z => ?_) ?_
      · obtain ⟨g1, r, _, g2⟩ := e3 p (inks p hp)
        exact ⟨s2 _ _ g1, r.1, r.2, g2⟩
      · rw [List.pairwise_map]
        exact pw.imp fun h => lex_le h
      · rw [List.Nodup, List.pairwise_map] at ndL ⊢
        refine ndL.imp_of_mem fun {x y} hx hy ne z => ne ?_
        obtain ⟨_, r, _, g2⟩ := e3 x (inks x hx)
        obtain ⟨_, t, _, g3⟩ := e3 y (inks y hy)
        rw [g2, g3, pr2_pair, pr2_pair] at z
        rw [g2, g3, z]
      · obtain ⟨i, hi, rfl⟩ := List.mem_map.mp ((mem v).mp hv)
        exact at0_mem (sr.lt bs (List.mem_append_left _ hi))
      · have e := sr.rw'.length_eq
        rw [List.append_nil, List.length_cons] at e
        cases hR : R with
        | nil => rw [hR] at e; simp at e
        | cons i R' =>
          have : at0 rs i ∈ L'.map (fun q => GSP.pr2 q.2) := (mem _).mpr (by rw [hR]; exact List.mem_map.mpr ⟨i, List.mem_cons_self, rfl⟩)
          rw [z] at this
          exact List.not_mem_nil this
      · rw [cnt_congr mem, cnt_congr mem]
        have := sr.end bs
        rw [show (plcs (at0 ss) ss.length (R.map (at0 rs))).length = ss.countP (K57.ard (R.map (at0 rs))) from K57.ard_plcs _ ss, show (plcs (at0 rs) rs.length (R.map (at0 rs))).length = rs.countP (K57.ard (R.map (at0 rs))) from K57.ard_plcs _ rs] at this
        exact this
    have hne : (!(nI (W' ++ [r])).isEmpty) = true := by simp [nI]
    rw [hne]
    have hr0 : r < rs.length := sr.lt bs (List.mem_append_right _ (List.mem_append_right _ List.mem_cons_self))
    obtain ⟨pr, hx, hpr⟩ := BO.pair_get pa (show rs[r]? = some (at0 rs r) by unfold at0; rw [List.getElem?_eq_getElem hr0]; rfl)
    have mid := sr.pop
    refine iteT ⟨_, fun _ _ h => h, ?_⟩
    refine ⟨.ref a, rfl, .ref wl, rfl, .inl ⟨rfl, _, SqL.of hW⟩, wl, nI (W' ++ [r]), .int (r : Int), rfl, rfl, hW, by simp [nI], ?_⟩
    have edl : (nI (W' ++ [r])).dropLast = nI W' := by simp [nI]
    rw [edl]
    have sm1 := same_again (o := .lst (nI W')) nwl0 sm
    have hD1 : (upd Hw wl (.lst (nI W'))) D = some (.dK (dkv O)) := by rw [upd_ne nwD]; exact hD
    have hc1 : (upd Hw wl (.lst (nI W'))) cl = some (.lst us) := by rw [upd_ne nwcl.symm]; exact hcl
    have hW1 := upd_same (H := Hw) (a := wl) (o := .lst (nI W'))
    generalize upd Hw wl (.lst (nI W')) = Hv at sm1 hD1 hc1 hW1 ⊢
    clear sm hD hW hcl sr edl hne
    have lu := pu.length
    rw [List.length_map] at lu
    refine ⟨a, xs, (r : Int), .ref pr, rfl, rfl, hA.same sm1, atI_nat hx, ?_⟩
    refine ⟨.ref cl, rfl, .inl ⟨rfl, _, SqL.of hc1⟩, .ref pr, rfl, cl, us, .ref pr, rfl, rfl, hc1, small3000 (by omega), ?_⟩
    have sm2 := same_again (o := .lst (us ++ [.ref pr])) ncl0 sm1
    have hD2 : (upd Hv cl (.lst (us ++ [.ref pr]))) D = some (.dK (dkv O)) := by rw [upd_ne nDcl]; exact hD1
    have hW2 : (upd Hv cl (.lst (us ++ [.ref pr]))) wl = some (.lst (nI W')) := by rw [upd_ne nwcl]; exact hW1
    have hc2 := upd_same (H := Hv) (a := cl) (o := .lst (us ++ [.ref pr]))
    generalize upd Hv cl (.lst (us ++ [.ref pr])) = Hu at sm2 hD2 hW2 hc2 ⊢
    have pu2 := pairs_snoc hpr pu
    clear sm1 hD1 hW1 hc1
    -- for place, outer
    refine ⟨.ref b, rfl, b, ys, H, rfl, hB, sm2, fun J2 G2 wk2 hG2 => for_it wk2 (fun j σ Hz => ∃ (W : List Nat) (O2 Gs2 : List (Nat × Nat)), O2.length + W.length = O.length + W'.length ∧ Same H Hz ∧ Hz D = some (.dK (dkv O2)) ∧ Hz wl = some (.lst (nI W)) ∧ Hz cl = some (.lst (us ++ [.ref pr])) ∧ Mid (at0 rs) (at0 ss) rs.length ss.length a0 S (ow rs.length l) R W O2 Gs2 r j ∧ ∃ r3 r8 r9 : Option V, σ = [some (.ref a), some (.ref b), some (.ref c), r3, some (.ref D), some (.ref wl), some (.ref cl), some (.ref pr), r8, r9])
      ⟨W', O, Gs, rfl, sm2, hD2, hW2, hc2, mid, _, _, _, rfl⟩ (fun j σ Hz _ z => by obtain ⟨_, _, _, _, g, _⟩ := z; exact hG2 _ g) ?_ ?_⟩
    · clear sm2 hD2 hW2 hc2 mid
      rintro j v σ Hz Hy hj ⟨W, O2, Gs2, hlen, sm, hD, hW, hcl, mid, r3, r8, r9, rfl⟩ ⟨T, x, y, rfl, nT, rfl, hx2, hy2⟩
      obtain rfl : V.int (j : Int) = x := Option.some.inj hx2
      obtain ⟨q, pq, eq, rfl, hq2⟩ := pr_at pb hy2
      have hj2 : j < ss.length := by omega
      have ea : at0 ss j = q := by unfold at0; rw [eq]; rfl
      have sT := same_new (o := .tup [.int (j : Int), .ref pq]) nT
      have smT := sm.trans sT
      have hD := sT _ _ hD
      have hW := sT _ _ hW
      have hcl := sT _ _ hcl
      have hT := upd_same (H := Hz) (a := T) (o := .tup [.int (j : Int), .ref pq])
      generalize upd Hz T (.tup [.int (j : Int), .ref pq]) = Hy at smT hD hW hcl hT ⊢
      refine ⟨T, _, rfl, SqT.of hT, rfl, .int (j : Int), [.ref pq], rfl, .ref pq, [], rfl, rfl, ?_⟩
      clear sm sT nT hT
      refine ⟨.int (j : Int), rfl, .ref D, rfl, D, _, rfl, DGet.k (k := Sum.inl (j : Int)) hD, ?_⟩
      cases ev : valV (dkv O2) (Sum.inl (j : Int)) with
      | none =>
        refine ⟨false, rfl, ?_⟩
        refine iteF ?_
        refine iteF ?_
        exact ⟨W, O2, Gs2, hlen, smT, hD, hW, hcl, mid.gone bs (dkv_none.mp ev), _, _, _, rfl⟩
      | some v =>
        refine ⟨true, rfl, iteT ⟨.ref pq, rfl, .ref pr, rfl, pq, pr, q.1, q.2, (at0 rs r).1, (at0 rs r).2, rfl, SqT.of (smT _ _ hq2), SqT.of (smT _ _ hpr), _, rfl, ?_⟩⟩
        cases hb : (decide (q.1 ≤ (at0 rs r).1) && decide ((at0 rs r).2 ≤ q.2)) with
        | false =>
          refine iteF ⟨W, O2, Gs2, hlen, smT, hD, hW, hcl, mid.no (fun z => ?_), _, _, _, rfl⟩
          rw [ea] at z
          have := hasB_iff.mpr z
          unfold hasB at this
          rw [hb] at this
          cases this
        | true =>
          have hcont : cont (at0 ss j) (at0 rs r) := by rw [ea]; exact hasB_iff.mp hb
          obtain ⟨i, rfl, mi⟩ := dkv_some ev
          have ndO : (O2.map (·.2)).Nodup := by
            have := (mid.per.map (·.2)).nodup_iff.mpr bs.nd2
            rw [List.map_append] at this
            exact (List.nodup_append.mp this).1
          have pO := ow_perm ndO mi
          have lO := pO.length_eq
          have mid2 := mid.take bs hj2 hcont pO
          have lW : W.length ≤ 200 := by
            have e2 := mid2.rw'.length_eq
            have e3 := mid2.per.length_eq
            simp only [List.length_append, List.length_cons, List.length_map, List.length_nil] at e2 e3
            omega
          rw [List.length_cons] at lO
          refine iteT ⟨.ref wl, rfl, .inl ⟨rfl, _, SqL.of hW⟩, .ref D, rfl, D, rfl, .inl ⟨_, .inl hD⟩, .int (j : Int), rfl, dkv O2, Sum.inl (j : Int), .int (i : Int), hD, rfl, ev, ?_⟩
          rw [dkv_drop]
          refine ⟨wl, nI W, .int (i : Int), rfl, rfl, by rw [upd_ne nwD.symm]; exact hW, small3000 (by unfold nI; rw [List.length_map]; omega), ?_⟩
          have smD := same_again (o := .dK (dkv (O2.filter fun e => decide (e.2 ≠ j)))) nD smT
          have sm3 := same_again (o := .lst (nI W ++ [.int (i : Int)])) nwl0 smD
          refine ⟨W ++ [i], O2.filter (fun e => decide (e.2 ≠ j)), Gs2 ++ [(i, j)], ?_, sm3, ?_, ?_, ?_, mid2, _, _, _, rfl⟩
          · rw [List.length_append, List.length_cons, List.length_nil]; omega
          · rw [upd_ne nwD, upd_same]
          · rw [upd_same]; simp [nI]
          · rw [upd_ne nwcl.symm, upd_ne nDcl.symm]; exact hcl
    · rintro σ Hz ⟨W, O2, Gs2, hlen, sm, hD, hW, hcl, mid3, r3, r8, r9, rfl⟩
      refine ⟨O2.length + W.length, by rw [List.length_append, List.length_cons, List.length_nil]; omega, R ++ [r], W, O2, Gs2, us ++ [.ref pr], rfl, sm, hD, hW, hcl, by rw [List.map_append]; exact pu2, mid3.done (by omega), _, _, _, _, rfl⟩
end
end CR

/-! the number of half-cycles in an up-set of ranges never grows when readings are left out -/
namespace K52
open KM PM RM RN RC
/-- a set of ranges that goes on to wider ones -/
structure Up (U : Int → Int → Bool) : Prop where
  up : ∀ {a b c d : Int}, c ≤ a → b ≤ d → U a b = true → U c d = true
  lt : ∀ {a b : Int}, U a b = true → a < b
inductive S where
  | no
  | bo (m M : Int)
  | up (m : Int)
  | dn (M : Int)
def mn (a b : Int) : Int := if a ≤ b then a else b
def mx (a b : Int) : Int := if a ≤ b then b else a
theorem mn1 (a b : Int) : mn a b ≤ a := by unfold mn; split <;> omega
theorem mn2 (a b : Int) : mn a b ≤ b := by unfold mn; split <;> omega
theorem mx1 (a b : Int) : a ≤ mx a b := by unfold mx; split <;> omega
theorem mx2 (a b : Int) : b ≤ mx a b := by unfold mx; split <;> omega
def nx (U : Int → Int → Bool) : S → Int → S
  | .no, r => .bo r r
  | .bo m M, r => if U m r = true then .dn r else if U r M = true then .up r else .bo (mn m r) (mx M r)
  | .up m, r => if U m r = true then .dn r else .up (mn m r)
  | .dn M, r => if U r M = true then .up r else .dn (mx M r)
def ky (U : Int → Int → Bool) : S → Int → Nat
  | .no, _ => 0
  | .bo m M, r => if U m r = true then 1 else if U r M = true then 1 else 0
  | .up m, r => if U m r = true then 1 else 0
  | .dn M, r => if U r M = true then 1 else 0
def g (U : Int → Int → Bool) : S → List Int → Nat
  | _, [] => 0
  | s, r :: l => ky U s r + g U (nx U s r) l
/-- what stands behind a reading -/
def Seen (U : Int → Int → Bool) : S → Int → Prop
  | .no, _ => False
  | .bo m M, a => m ≤ a ∧ a ≤ M ∧ U m M = false
  | .up m, a => m ≤ a ∧ U m a = false
  | .dn M, a => a ≤ M ∧ U a M = false
def Ok (U : Int → Int → Bool) : S → Prop
  | .bo m M => m ≤ M ∧ U m M = false
  | _ => True
section
variable {U : Int → Int → Bool}
theorem Up.no (h : Up U) {a b c d : Int} (h1 : c ≤ a) (h2 : b ≤ d) (e : U c d = false) : U a b = false := by
  cases x : U a b with
  | false => rfl
  | true => rw [h.up h1 h2 x] at e; exact e
theorem Up.ge (h : Up U) {a b : Int} (e : b ≤ a) : U a b = false := by
  cases x : U a b with
  | false => rfl
  | true => have := h.lt x; omega
theorem seen_nx (h : Up U) {s : S} {a : Int} (o : Ok U s) : Seen U (nx U s a) a ∧ Ok U (nx U s a) := by
  cases s with
  | no => exact ⟨⟨Int.le_refl _, Int.le_refl _, h.ge (Int.le_refl _)⟩, Int.le_refl _, h.ge (Int.le_refl _)⟩
  | bo m M =>
    obtain ⟨o1, o2⟩ := o
    simp only [nx]
    split
    · exact ⟨⟨Int.le_refl _, h.ge (Int.le_refl _)⟩, trivial⟩
    · split
      · exact ⟨⟨Int.le_refl _, h.ge (Int.le_refl _)⟩, trivial⟩
      · rename_i h1 h2
        have e : U (mn m a) (mx M a) = false := by
          unfold mn mx
          split <;> split
          · simpa using h1
          · exact o2
          · exact h.ge (by omega)
          · simpa using h2
        have := mn1 m a
        have := mx1 M a
        exact ⟨⟨mn2 _ _, mx2 _ _, e⟩, by omega, e⟩
  | up m =>
    simp only [nx]
    split
    · exact ⟨⟨Int.le_refl _, h.ge (Int.le_refl _)⟩, trivial⟩
    · rename_i h1
      refine ⟨⟨mn2 _ _, ?_⟩, trivial⟩
      unfold mn
      split
      · simpa using h1
      · exact h.ge (Int.le_refl _)
  | dn M =>
    simp only [nx]
    split
    · exact ⟨⟨Int.le_refl _, h.ge (Int.le_refl _)⟩, trivial⟩
    · rename_i h1
      refine ⟨⟨mx2 _ _, ?_⟩, trivial⟩
      unfold mx
      split
      · exact h.ge (Int.le_refl _)
      · simpa using h1
theorem nx_same (h : Up U) {s : S} {a : Int} (o : Seen U s a) : nx U s a = s ∧ ky U s a = 0 := by
  cases s with
  | no => exact o.elim
  | bo m M =>
    obtain ⟨o1, o2, o3⟩ := o
    have e1 := h.no (Int.le_refl m) o2 o3
    have e2 := h.no o1 (Int.le_refl M) o3
    simp only [nx, ky, e1, e2, mn, mx]
    constructor
    · rw [if_neg (by simp), if_neg (by simp), if_pos o1]
      split
      · rw [show M = a by omega]
      · rfl
    · simp
  | up m =>
    obtain ⟨o1, o2⟩ := o
    simp [nx, ky, o2, mn, o1]
  | dn M =>
    obtain ⟨o1, o2⟩ := o
    simp only [nx, ky, o2, mx]
    constructor
    · rw [if_neg (by simp)]
      split
      · rw [show M = a by omega]
      · rfl
    · simp
theorem g_same (h : Up U) {s : S} {a : Int} (o : Seen U s a) (l : List Int) : g U s (a :: l) = g U s l := by
  obtain ⟨e1, e2⟩ := nx_same h o
  show ky U s a + g U (nx U s a) l = _
  rw [e1, e2, Nat.zero_add]
def b2 (b : Bool) : Nat := if b = true then 1 else 0

theorem mnl {a b : Int} (h : a ≤ b) : mn a b = a := if_pos h
theorem mnr {a b : Int} (h : b ≤ a) : mn a b = b := by unfold mn; split <;> omega
theorem mxl {a b : Int} (h : b ≤ a) : mx a b = a := by unfold mx; split <;> omega
theorem mxr {a b : Int} (h : a ≤ b) : mx a b = b := if_pos h
theorem bo_u {m M r : Int} (e : U m r = true) (l : List Int) : g U (.bo m M) (r :: l) = 1 + g U (.dn r) l := by simp [g, nx, ky, e]
theorem bo_d {m M r : Int} (e1 : U m r = false) (e : U r M = true) (l : List Int) : g U (.bo m M) (r :: l) = 1 + g U (.up r) l := by simp [g, nx, ky, e, e1]
theorem bo_n {m M r : Int} (e1 : U m r = false) (e : U r M = false) (l : List Int) : g U (.bo m M) (r :: l) = g U (.bo (mn m r) (mx M r)) l := by simp [g, nx, ky, e, e1]
theorem up_y {m r : Int} (e : U m r = true) (l : List Int) : g U (.up m) (r :: l) = 1 + g U (.dn r) l := by simp [g, nx, ky, e]
theorem up_n {m r : Int} (e : U m r = false) (l : List Int) : g U (.up m) (r :: l) = g U (.up (mn m r)) l := by simp [g, nx, ky, e]
theorem dn_y {M r : Int} (e : U r M = true) (l : List Int) : g U (.dn M) (r :: l) = 1 + g U (.up r) l := by simp [g, nx, ky, e]
theorem dn_n {M r : Int} (e : U r M = false) (l : List Int) : g U (.dn M) (r :: l) = g U (.dn (mx M r)) l := by simp [g, nx, ky, e]
theorem no_1 {r : Int} (l : List Int) : g U .no (r :: l) = g U (.bo r r) l := by simp [g, nx, ky]
theorem four_up (h : Up U) {s : S} {a b c d : Int} (o : Seen U s a) (post : List Int) (h1 : a ≤ c) (h2 : c < b) (h3 : b ≤ d) : g U s (b :: c :: d :: post) = g U s (d :: post) + 2 * b2 (U c b) := by
  cases s with
  | no => exact o.elim
  | bo m M =>
    obtain ⟨o1, o2, o3⟩ := o
    cases e : U m b with
    | true =>
      have hb : M < b := by
        apply Classical.byContradiction; intro z
        rw [h.no (Int.le_refl m) (show b ≤ M by omega) o3] at e
        cases e
      rw [bo_u e, bo_u (h.up (Int.le_refl m) h3 e)]
      cases f : U c b with
      | true => rw [dn_y f, up_y (h.up (Int.le_refl c) h3 f)]; simp [b2]; omega
      | false => rw [dn_n f, mxl (by omega), dn_n (h.ge h3), mxr h3]; simp [b2]
    | false =>
      have f := h.no (show m ≤ c by omega) (Int.le_refl b) e
      rw [f, bo_n e (h.no (show m ≤ b by omega) (Int.le_refl M) o3), mnl (by omega)]
      have e2 : U c (mx M b) = false := by
        unfold mx; split
        · exact f
        · exact h.no (show m ≤ c by omega) (Int.le_refl M) o3
      have q1 := mx1 M b
      have q2 := mx2 M b
      rw [bo_n (h.no (Int.le_refl m) (show c ≤ b by omega) e) e2, mnl (by omega), mxl (show c ≤ mx M b by omega)]
      cases k : U m d with
      | true => rw [bo_u k, bo_u k]; simp [b2]
      | false =>
        have e3 : U d (mx M b) = false := by
          unfold mx; split
          · exact h.ge h3
          · exact h.no (show m ≤ d by omega) (Int.le_refl M) o3
        rw [bo_n k e3, bo_n k (h.no (show m ≤ d by omega) (Int.le_refl M) o3)]
        have : mx (mx M b) d = mx M d := by unfold mx; repeat (first | split | omega)
        rw [this]; simp [b2]
  | up m =>
    obtain ⟨o1, o2⟩ := o
    cases e : U m b with
    | true =>
      rw [up_y e, up_y (h.up (Int.le_refl m) h3 e)]
      cases f : U c b with
      | true => rw [dn_y f, up_y (h.up (Int.le_refl c) h3 f)]; simp [b2]; omega
      | false => rw [dn_n f, mxl (by omega), dn_n (h.ge h3), mxr h3]; simp [b2]
    | false =>
      rw [h.no (show m ≤ c by omega) (Int.le_refl b) e, up_n e, mnl (by omega), up_n (h.no (Int.le_refl m) (show c ≤ b by omega) e), mnl (by omega)]
      simp [b2]
  | dn M =>
    obtain ⟨o1, o2⟩ := o
    rw [dn_n (h.no (show a ≤ b by omega) (Int.le_refl M) o2)]
    by_cases q : b ≤ M
    · rw [mxl q, dn_n (h.no h1 (Int.le_refl M) o2), mxl (by omega), h.no h1 q o2]; simp [b2]
    · rw [mxr (by omega), dn_n (h.ge (show M ≤ d by omega)), mxr (show M ≤ d by omega)]
      cases f : U c b with
      | true => rw [dn_y f, up_y (h.up (Int.le_refl c) h3 f)]; simp [b2]; omega
      | false => rw [dn_n f, mxl (by omega), dn_n (h.ge h3), mxr h3]; simp [b2]
theorem four_down (h : Up U) {s : S} {a b c d : Int} (o : Seen U s a) (post : List Int) (h1 : c ≤ a) (h2 : b < c) (h3 : d ≤ b) : g U s (b :: c :: d :: post) = g U s (d :: post) + 2 * b2 (U b c) := by
  cases s with
  | no => exact o.elim
  | bo m M =>
    obtain ⟨o1, o2, o3⟩ := o
    rw [show g U (.bo m M) (b :: c :: d :: post) = _ from rfl]
    have k1 := h.no (Int.le_refl m) (show b ≤ M by omega) o3
    have k2 := h.no (Int.le_refl m) (show d ≤ M by omega) o3
    cases e : U b M with
    | true =>
      have hb : b < m := by
        apply Classical.byContradiction; intro z
        rw [h.no (show m ≤ b by omega) (Int.le_refl M) o3] at e
        cases e
      rw [bo_d k1 e, bo_d k2 (h.up h3 (Int.le_refl M) e)]
      cases f : U b c with
      | true => rw [up_y f, dn_y (h.up h3 (Int.le_refl c) f)]; simp [b2]; omega
      | false => rw [up_n f, mnl (by omega), up_n (h.ge h3), mnr h3]; simp [b2]
    | false =>
      have f := h.no (Int.le_refl b) (show c ≤ M by omega) e
      rw [f, bo_n k1 e, mxl (show b ≤ M by omega)]
      have q1 := mn1 m b
      have q2 := mn2 m b
      have e2 : U (mn m b) c = false := by
        unfold mn; split
        · exact h.no (Int.le_refl m) (show c ≤ M by omega) o3
        · exact f
      rw [bo_n e2 (h.no (show b ≤ c by omega) (Int.le_refl M) e), mnl (show mn m b ≤ c by omega), mxl (show c ≤ M by omega)]
      have e3 : U (mn m b) d = false := by
        unfold mn; split
        · exact k2
        · exact h.ge h3
      cases k : U d M with
      | true => rw [bo_d e3 k, bo_d k2 k]; simp [b2]
      | false =>
        rw [bo_n e3 k, bo_n k2 k]
        have : mn (mn m b) d = mn m d := by unfold mn; repeat (first | split | omega)
        rw [this]; simp [b2]
  | up m =>
    obtain ⟨o1, o2⟩ := o
    rw [up_n (h.no (Int.le_refl m) (show b ≤ a by omega) o2)]
    by_cases q : m ≤ b
    · rw [mnl q, up_n (h.no (Int.le_refl m) h1 o2), mnl (by omega), h.no q h1 o2]; simp [b2]
    · rw [mnr (by omega), up_n (h.ge (show d ≤ m by omega)), mnr (show d ≤ m by omega)]
      cases f : U b c with
      | true => rw [up_y f, dn_y (h.up h3 (Int.le_refl c) f)]; simp [b2]; omega
      | false => rw [up_n f, mnl (by omega), up_n (h.ge h3), mnr h3]; simp [b2]
  | dn M =>
    obtain ⟨o1, o2⟩ := o
    cases e : U b M with
    | true =>
      rw [dn_y e, dn_y (h.up h3 (Int.le_refl M) e)]
      cases f : U b c with
      | true => rw [up_y f, dn_y (h.up h3 (Int.le_refl c) f)]; simp [b2]; omega
      | false => rw [up_n f, mnl (by omega), up_n (h.ge h3), mnr h3]; simp [b2]
    | false =>
      rw [h.no (Int.le_refl b) (show c ≤ M by omega) e, dn_n e, mxl (by omega), dn_n (h.no (show b ≤ c by omega) (Int.le_refl M) e), mxl (by omega)]
      simp [b2]
theorem g_btw (h : Up U) {s : S} {b a r : Int} (o : Seen U s b) (l : List Int) (z : Btw a b r) : g U s (a :: r :: l) = g U s (r :: l) := by
  rcases (show (b ≤ a ∧ a ≤ r) ∨ (r ≤ a ∧ a ≤ b) from by unfold Btw at z; omega) with ⟨h1, h2⟩ | ⟨h1, h2⟩
  · cases s with
    | no => exact o.elim
    | up m =>
      obtain ⟨o1, o2⟩ := o
      cases e : U m a with
      | true => rw [up_y e, dn_n (h.ge h2), mxr h2, up_y (h.up (Int.le_refl m) h2 e)]
      | false => rw [up_n e, mnl (by omega)]
    | dn M =>
      obtain ⟨o1, o2⟩ := o
      rw [dn_n (h.no h1 (Int.le_refl M) o2)]
      by_cases q : a ≤ M
      · rw [mxl q]
      · rw [mxr (by omega), dn_n (h.ge h2), mxr h2, dn_n (h.ge (show M ≤ r by omega)), mxr (show M ≤ r by omega)]
    | bo m M =>
      obtain ⟨o1, o2, o3⟩ := o
      have n3 := h.no (show m ≤ r by omega) (Int.le_refl M) o3
      cases e : U m a with
      | true => rw [bo_u e, dn_n (h.ge h2), mxr h2, bo_u (h.up (Int.le_refl m) h2 e)]
      | false =>
        rw [bo_n e (h.no (show m ≤ a by omega) (Int.le_refl M) o3), mnl (by omega)]
        cases k : U m r with
        | true => rw [bo_u k, bo_u k]
        | false =>
          have e3 : U r (mx M a) = false := by
            unfold mx; split
            · exact h.ge h2
            · exact n3
          rw [bo_n k e3, bo_n k n3]
          have : mx (mx M a) r = mx M r := by unfold mx; repeat (first | split | omega)
          rw [this]
  · cases s with
    | no => exact o.elim
    | dn M =>
      obtain ⟨o1, o2⟩ := o
      cases e : U a M with
      | true => rw [dn_y e, up_n (h.ge h1), mnr h1, dn_y (h.up h1 (Int.le_refl M) e)]
      | false => rw [dn_n e, mxl (by omega)]
    | up m =>
      obtain ⟨o1, o2⟩ := o
      rw [up_n (h.no (Int.le_refl m) h2 o2)]
      by_cases q : m ≤ a
      · rw [mnl q]
      · rw [mnr (by omega), up_n (h.ge h1), mnr h1, up_n (h.ge (show r ≤ m by omega)), mnr (show r ≤ m by omega)]
    | bo m M =>
      obtain ⟨o1, o2, o3⟩ := o
      have n3 := h.no (Int.le_refl m) (show r ≤ M by omega) o3
      have n4 := h.no (Int.le_refl m) (show a ≤ M by omega) o3
      cases e : U a M with
      | true => rw [bo_d n4 e, up_n (h.ge h1), mnr h1, bo_d n3 (h.up h1 (Int.le_refl M) e)]
      | false =>
        rw [bo_n n4 e, mxl (by omega)]
        have e3 : U (mn m a) r = false := by
          unfold mn; split
          · exact n3
          · exact h.ge h1
        cases k : U r M with
        | true => rw [bo_d e3 k, bo_d n3 k]
        | false =>
          rw [bo_n e3 k, bo_n n3 k]
          have : mn (mn m a) r = mn m r := by unfold mn; repeat (first | split | omega)
          rw [this]
theorem g_cons (s : S) (r : Int) (l : List Int) : g U s (r :: l) = ky U s r + g U (nx U s r) l := rfl
/-- how many ranges are in the set -/
def nU (U : Int → Int → Bool) (rs : List (Int × Int)) : Nat := rs.countP fun r => U r.1 r.2
theorem nU_cons (r : Int × Int) (rs : List (Int × Int)) : nU U (r :: rs) = b2 (U r.1 r.2) + nU U rs := by
  unfold nU b2
  rw [List.countP_cons]
  omega
theorem g_step (h : Up U) {p q : List Int} {c : Int × Int} (t : Step p c q) : ZZ p → ∀ s, Ok U s → g U s p = g U s q + 2 * b2 (U c.1 c.2) := by
  induction t with
  | @here a b c d post t =>
    intro z s o
    have sn := (seen_nx h (a := a) o).1
    rcases (taken_iff z.four).mp t with ⟨x1, x2, x3, x4, x5⟩ | ⟨x1, x2, x3, x4, x5⟩
    · rw [rg_down x2, g_cons, g_cons s a (d :: post), four_up h sn post x4 x2 x5]; dsimp only; omega
    · rw [rg_up x2, g_cons, g_cons s a (d :: post), four_down h sn post x4 x2 x5]; dsimp only; omega
  | @there x p q cy t ih =>
    intro z s o
    rw [g_cons, g_cons, ih z.tail _ (seen_nx h o).2]
    omega
theorem g_run (h : Up U) {p q : List Int} {cs : List (Int × Int)} (t : Run p cs q) : ZZ p → ∀ s, Ok U s → g U s p = g U s q + 2 * nU U cs := by
  induction t with
  | nil p => intro _ s _; rfl
  | cons t _ ih =>
    intro z s o
    rw [g_step h t z s o, ih (ZZ.step t z) s o, nU_cons]
    omega
theorem g_tq (h : Up U) : ∀ (l : List Int) (s : S) (b a : Int), Seen U s b → Ok U s → g U s (tq b a l) = g U s (a :: l)
  | [], _, _, _, _, _ => rfl
  | r :: l, s, b, a, o, k => by
    simp only [tq]
    by_cases e : a = r
    · rw [if_pos e, g_tq h l s b a o k, ← e, g_cons, g_cons s a (a :: l), g_same h (seen_nx h k).1]
    · rw [if_neg e]
      by_cases bt : Btw a b r
      · rw [if_pos bt, g_tq h l s b r o k, g_btw h o l bt]
      · rw [if_neg bt, g_cons, g_cons s a (r :: l), g_tq h l _ a r (seen_nx h k).1 (seen_nx h k).2]
theorem g_ts (h : Up U) : ∀ (l : List Int) (s : S) (a : Int), Ok U s → g U s (ts a l) = g U s (a :: l)
  | [], _, _, _ => rfl
  | r :: l, s, a, k => by
    simp only [ts]
    by_cases e : a = r
    · rw [if_pos e, g_ts h l s a k, ← e, g_cons, g_cons s a (a :: l), g_same h (seen_nx h k).1]
    · rw [if_neg e, g_cons, g_cons s a (r :: l), g_tq h l _ a r (seen_nx h k).1 (seen_nx h k).2]
theorem g_tp (h : Up U) (ns : List Int) : g U .no (tp ns) = g U .no ns := by
  cases ns with
  | nil => rfl
  | cons a l => exact g_ts h l .no a trivial
theorem dn_bo (h : Up U) {M : Int} : ∀ (r : List Int) (m : Int), (∀ w ∈ r, w ≤ M) → m ≤ M → U m M = false → g U (.dn M) r = g U (.bo m M) r
  | [], _, _, _, _ => rfl
  | w :: r, m, hw, hm, e => by
    have w1 := hw w List.mem_cons_self
    have e1 := h.no (Int.le_refl m) w1 e
    cases k : U w M with
    | true => rw [dn_y k, bo_d e1 k]
    | false =>
      rw [dn_n k, bo_n e1 k, mxl w1]
      refine dn_bo h r _ (fun v hv => hw v (List.mem_cons_of_mem _ hv)) ?_ ?_
      · have := mn1 m w; omega
      · unfold mn; split
        · exact e
        · exact k
theorem up_bo (h : Up U) {m : Int} : ∀ (r : List Int) (M : Int), (∀ w ∈ r, m ≤ w) → m ≤ M → U m M = false → g U (.up m) r = g U (.bo m M) r
  | [], _, _, _, _ => rfl
  | w :: r, M, hw, hm, e => by
    have w1 := hw w List.mem_cons_self
    have e1 := h.no w1 (Int.le_refl M) e
    cases k : U m w with
    | true => rw [up_y k, bo_u k]
    | false =>
      rw [up_n k, bo_n k e1, mnl w1]
      refine up_bo h r _ (fun v hv => hw v (List.mem_cons_of_mem _ hv)) ?_ ?_
      · have := mx1 M w; omega
      · unfold mx; split
        · exact k
        · exact e
theorem bo_none (h : Up U) {u v : Int} (e : U u v = false) : ∀ (r : List Int) (m M : Int), (∀ w ∈ r, u ≤ w ∧ w ≤ v) → u ≤ m → M ≤ v → g U (.bo m M) r = 0
  | [], _, _, _, _, _ => rfl
  | w :: r, m, M, hw, hm, hM => by
    have w1 := hw w List.mem_cons_self
    rw [bo_n (h.no hm w1.2 e) (h.no w1.1 hM e)]
    refine bo_none h e r _ _ (fun x hx => hw x (List.mem_cons_of_mem _ hx)) ?_ ?_
    · unfold mn; split <;> omega
    · unfold mx; split <;> omega
theorem con_one (h : Up U) {x y : Int} {r : List Int} (c : In (if x < y then x else y) (if x < y then y else x) (x :: y :: r)) (ne : x ≠ y) : g U .no (x :: y :: r) = b2 (U (rg x y).1 (rg x y).2) + g U .no (y :: r) := by
  have ge := h.ge (Int.le_refl y)
  rcases (show x < y ∨ y < x by omega) with h1 | h1
  · rw [if_pos h1, if_pos h1] at c
    have cr : ∀ w ∈ r, x ≤ w ∧ w ≤ y := fun w hw => c w (List.mem_cons_of_mem _ (List.mem_cons_of_mem _ hw))
    rw [rg_up h1, no_1, no_1]
    show _ = b2 (U x y) + _
    cases e : U x y with
    | true => rw [bo_u e, dn_bo h r y (fun w hw => (cr w hw).2) (Int.le_refl y) ge]; simp [b2]
    | false => rw [bo_n e (h.ge (show x ≤ y by omega)), mnl (by omega), mxr (by omega), bo_none h e r x y cr (Int.le_refl _) (Int.le_refl _), bo_none h e r y y cr (by omega) (Int.le_refl _)]; simp [b2]
  · rw [if_neg (by omega), if_neg (by omega)] at c
    have cr : ∀ w ∈ r, y ≤ w ∧ w ≤ x := fun w hw => c w (List.mem_cons_of_mem _ (List.mem_cons_of_mem _ hw))
    rw [rg_down h1, no_1, no_1]
    show _ = b2 (U y x) + _
    have f := h.ge (show y ≤ x by omega)
    cases e : U y x with
    | true => rw [bo_d f e, up_bo h r y (fun w hw => (cr w hw).1) (Int.le_refl y) ge]; simp [b2]
    | false => rw [bo_n f e, mnr (by omega), mxl (by omega), bo_none h e r y x cr (Int.le_refl _) (Int.le_refl _), bo_none h e r y y cr (Int.le_refl _) (by omega)]; simp [b2]
theorem wide_one (h : Up U) {x y z : Int} {r : List Int} (k : (y < x ∧ x < z) ∨ (x < y ∧ z < x)) : g U .no (x :: y :: z :: r) = b2 (U (rg x y).1 (rg x y).2) + g U .no (y :: z :: r) := by
  rcases k with ⟨h1, h2⟩ | ⟨h1, h2⟩
  · rw [rg_down h1, no_1, no_1]
    show _ = b2 (U y x) + _
    have f := h.ge (show y ≤ x by omega)
    have fz := h.ge (show y ≤ z by omega)
    cases e : U y x with
    | true =>
      have k := h.up (Int.le_refl y) (show x ≤ z by omega) e
      rw [bo_d f e, up_y k, bo_u k]; simp [b2]
    | false =>
      rw [bo_n f e, mnr (by omega), mxl (by omega)]
      cases k : U y z with
      | true => rw [bo_u k, bo_u k]; simp [b2]
      | false => rw [bo_n k (h.ge (show x ≤ z by omega)), bo_n k fz, mxr (show x ≤ z by omega), mxr (show y ≤ z by omega)]; simp [b2]
  · rw [rg_up h1, no_1, no_1]
    show _ = b2 (U x y) + _
    have f := h.ge (show x ≤ y by omega)
    have fz := h.ge (show z ≤ y by omega)
    cases e : U x y with
    | true =>
      have k := h.up (show z ≤ x by omega) (Int.le_refl y) e
      rw [bo_u e, dn_y k, bo_d fz k]; simp [b2]
    | false =>
      rw [bo_n e f, mnl (by omega), mxr (by omega)]
      cases k : U z y with
      | true => rw [bo_d (h.ge (show z ≤ x by omega)) k, bo_d fz k]; simp [b2]
      | false => rw [bo_n (h.ge (show z ≤ x by omega)) k, bo_n fz k, mnr (show z ≤ x by omega), mnr (show z ≤ y by omega)]; simp [b2]
theorem nf_g (h : Up U) : ∀ (ps : List Int), ZZ ps → NF ps → g U .no ps = nU U (sw ps)
  | [], _, _ => rfl
  | [x], _, _ => rfl
  | [x, y], zz, _ => by
    have zz : x ≠ y := zz
    show _ = nU U [rg x y]
    rw [nU_cons, con_one h (Con.inside (r := []) (x := x) (y := y) (show Con [x, y] from trivial) zz) zz]
    rfl
  | x :: y :: z :: r, zz, n => by
    have ih := nf_g h (y :: z :: r) zz.2 (fun c q s => n _ _ (.there s))
    show _ = nU U (rg x y :: sw (y :: z :: r))
    rw [nU_cons, ← ih]
    have z1 := zz.1
    by_cases k : (y < x ∧ z ≤ x) ∨ (x < y ∧ x ≤ z)
    · exact con_one h (Con.inside (nf_con zz n k) (by omega)) (by omega)
    · exact wide_one h (by omega)
/-- the half-cycles of a load that are in the set -/
theorem count_g (h : Up U) {ns rs : List Int} {cs : List (Int × Int)} (t : Run (tp ns) cs rs) (n : NF rs) : g U .no ns = 2 * nU U cs + nU U (sw rs) := by
  rw [← g_tp h, g_run h t (tp_zz ns) .no trivial, nf_g h rs (t.zz (tp_zz ns)) n]
  omega
/-! readings left out -/
def R (U : Int → Int → Bool) : S → S → Nat → Prop
  | .no, .no, k => k = 0
  | .no, .bo m M, k => k = 0 ∧ m ≤ M ∧ U m M = false
  | .no, .up _, k => 1 ≤ k
  | .no, .dn _, k => 1 ≤ k
  | .bo m M, .bo m2 M2, k => k = 0 ∧ m2 ≤ m ∧ M ≤ M2 ∧ m ≤ M ∧ U m2 M2 = false
  | .bo m _, .up m2, k => 2 ≤ k ∨ (k = 1 ∧ m2 ≤ m)
  | .bo _ M, .dn M2, k => 2 ≤ k ∨ (k = 1 ∧ M ≤ M2)
  | .up m, .up m2, k => 2 ≤ k ∨ m2 ≤ m
  | .dn M, .dn M2, k => 2 ≤ k ∨ M ≤ M2
  | .up _, .dn _, k => 1 ≤ k
  | .dn _, .up _, k => 1 ≤ k
  | _, _, _ => False

theorem R_skip (h : Up U) {s t : S} {k : Nat} (r : Int) (hR : R U s t k) : R U s (nx U t r) (k + ky U t r) := by
  have hup := @Up.up U h
  have hlt := @Up.lt U h
  cases s <;> cases t <;> simp only [R] at hR <;> (try exact hR.elim) <;> simp only [nx, ky] <;> (repeat' split) <;> simp only [R, mn, mx] <;> grind
theorem R_both (h : Up U) {s t : S} {k : Nat} (r : Int) (hR : R U s t k) : ky U s r ≤ k + ky U t r ∧ R U (nx U s r) (nx U t r) (k + ky U t r - ky U s r) := by
  have hup := @Up.up U h
  have hlt := @Up.lt U h
  cases s <;> cases t <;> simp only [R] at hR <;> (try exact hR.elim) <;> simp only [nx, ky] <;> (repeat' split) <;> simp only [R, mn, mx] <;> grind
theorem g_sub (h : Up U) {l m : List Int} (t : l.Sublist m) : ∀ (s u : S) (k : Nat), R U s u k → g U s l ≤ k + g U u m := by
  induction t with
  | slnil => intro s u k _; exact Nat.zero_le _
  | cons r _ ih =>
    intro s u k hR
    have := ih _ _ _ (R_skip h r hR)
    rw [g_cons u]
    omega
  | cons_cons r _ ih =>
    intro s u k hR
    obtain ⟨e, hR2⟩ := R_both h r hR
    have := ih _ _ _ hR2
    rw [g_cons u, g_cons s]
    omega
theorem sub_le (h : Up U) {l m : List Int} (t : l.Sublist m) : g U .no l ≤ g U .no m := by
  have := g_sub h t .no .no 0 rfl
  omega
end
end K52

/-! amounts and wear of tables -/
namespace K52b
open KM PM RM RN RC K52
def top : List Int → Int
  | [] => 0
  | n :: ns => ns.foldl max n
theorem fold_max : ∀ (l : List Int) (n t : Int), t < l.foldl max n ↔ t < n ∨ ∃ x ∈ l, t < x
  | [], n, t => by simp
  | a :: l, n, t => by
    rw [List.foldl_cons, fold_max l (max n a) t]
    constructor
    · rintro (h | ⟨x, hx, h⟩)
      · rcases (show t < n ∨ t < a by omega) with h | h
        · exact .inl h
        · exact .inr ⟨a, List.mem_cons_self, h⟩
      · exact .inr ⟨x, List.mem_cons_of_mem _ hx, h⟩
    · rintro (h | ⟨x, hx, h⟩)
      · exact .inl (by omega)
      · rcases List.mem_cons.mp hx with e | hx
        · subst e; exact .inl (by omega)
        · exact .inr ⟨x, hx, h⟩
theorem top_lt (l : List Int) {t : Int} (h : 0 ≤ t) : t < top l ↔ ∃ x ∈ l, t < x := by
  cases l with
  | nil =>
    show t < 0 ↔ _
    constructor
    · intro z; omega
    · rintro ⟨x, hx, _⟩; exact (List.not_mem_nil hx).elim
  | cons n ns =>
    show t < ns.foldl max n ↔ _
    rw [fold_max]
    constructor
    · rintro (z | ⟨x, hx, z⟩)
      · exact ⟨n, List.mem_cons_self, z⟩
      · exact ⟨x, List.mem_cons_of_mem _ hx, z⟩
    · rintro ⟨x, hx, z⟩
      rcases List.mem_cons.mp hx with e | hx
      · subst e; exact .inl z
      · exact .inr ⟨x, hx, z⟩
theorem top_nonneg {l : List Int} (h : ∀ x ∈ l, 0 ≤ x) : 0 ≤ top l := by
  cases l with
  | nil => exact Int.le_refl _
  | cons n ns =>
    have h0 := h n List.mem_cons_self
    apply Classical.byContradiction
    intro z
    have := (fold_max ns n (n - 1)).mpr (.inl (by omega))
    have e : top (n :: ns) = ns.foldl max n := rfl
    omega
abbrev Ent := Int × Int × Int
def Good (T : List Ent) : Prop := ∀ e ∈ T, e.1 < e.2.1 ∧ 0 ≤ e.2.2
def has (lo hi : Int) (e : Ent) : Bool := decide (lo ≤ e.1) && decide (e.2.1 ≤ hi)
def amts (T : List Ent) (lo hi : Int) : List Int := (T.filter (has lo hi)).map (·.2.2)
def amt (T : List Ent) (lo hi : Int) : Int := top (amts T lo hi)
theorem has_iff {lo hi : Int} {e : Ent} : has lo hi e = true ↔ lo ≤ e.1 ∧ e.2.1 ≤ hi := by unfold has; simp
theorem amt_lt (T : List Ent) (lo hi : Int) {t : Int} (h : 0 ≤ t) : t < amt T lo hi ↔ ∃ e ∈ T, (lo ≤ e.1 ∧ e.2.1 ≤ hi) ∧ t < e.2.2 := by
  unfold amt
  rw [top_lt _ h]
  unfold amts
  constructor
  · rintro ⟨x, hx, z⟩
    obtain ⟨e, he, rfl⟩ := List.mem_map.mp hx
    obtain ⟨e1, e2⟩ := List.mem_filter.mp he
    exact ⟨e, e1, has_iff.mp e2, z⟩
  · rintro ⟨e, he, h2, z⟩
    exact ⟨e.2.2, List.mem_map.mpr ⟨e, List.mem_filter.mpr ⟨he, has_iff.mpr h2⟩, rfl⟩, z⟩
theorem amt_nonneg {T : List Ent} (g : Good T) (lo hi : Int) : 0 ≤ amt T lo hi := by
  refine top_nonneg fun x hx => ?_
  obtain ⟨e, he, rfl⟩ := List.mem_map.mp hx
  exact (g e (List.mem_filter.mp he).1).2
theorem same_lt {a b : Int} (h1 : 0 ≤ a) (h2 : 0 ≤ b) (h : ∀ t, 0 ≤ t → (t < a ↔ t < b)) : a = b := by
  apply Classical.byContradiction
  intro z
  rcases (show a < b ∨ b < a by omega) with k | k
  · have := (h a h1).mpr k; omega
  · have := (h b h2).mp k; omega
theorem Good.app {T S : List Ent} (g : Good T) (h : Good S) : Good (T ++ S) := fun e he => (List.mem_append.mp he).elim (g e) (h e)
theorem Good.rev {T : List Ent} (g : Good T) : Good T.reverse := fun e he => g e (List.mem_reverse.mp he)
theorem good_one {e : Ent} (h : e.1 < e.2.1 ∧ 0 ≤ e.2.2) : Good [e] := fun f hf => by rw [List.mem_singleton.mp hf]; exact h
theorem amt_app {T : List Ent} (g : Good T) {e : Ent} (k : e.1 < e.2.1 ∧ 0 ≤ e.2.2) (lo hi : Int) : amt (T ++ [e]) lo hi = if (decide (lo ≤ e.1) && decide (e.2.1 ≤ hi)) = true then (if e.2.2 > amt T lo hi then e.2.2 else amt T lo hi) else amt T lo hi := by
  have n1 := amt_nonneg g lo hi
  have n2 := amt_nonneg (g.app (good_one k)) lo hi
  refine same_lt n2 (by split <;> (try split) <;> omega) fun t ht => ?_
  have f := amt_lt T lo hi ht
  rw [amt_lt _ lo hi ht]
  constructor
  · rintro ⟨x, hx, hh, z⟩
    rcases List.mem_append.mp hx with m | m
    · have := f.mpr ⟨x, m, hh, z⟩
      split <;> (try split) <;> omega
    · rw [List.mem_singleton.mp m] at hh z
      rw [if_pos (by simpa using hh)]
      split <;> omega
  · intro z
    have old : t < amt T lo hi → ∃ x ∈ T ++ [e], (lo ≤ x.1 ∧ x.2.1 ≤ hi) ∧ t < x.2.2 := fun q => by
      obtain ⟨x, m, hh, z⟩ := f.mp q
      exact ⟨x, List.mem_append_left _ m, hh, z⟩
    split at z
    · rename_i hh
      split at z
      · exact ⟨e, List.mem_append_right _ List.mem_cons_self, by simpa using hh, z⟩
      · exact old z
    · exact old z
theorem amt_idle {T : List Ent} (g : Good T) {e : Ent} (k : e.1 < e.2.1 ∧ e.2.2 = 0) (lo hi : Int) : amt (T.reverse ++ T ++ [e]) lo hi = amt T lo hi := by
  refine same_lt (amt_nonneg ((g.rev.app g).app (good_one ⟨k.1, by omega⟩)) lo hi) (amt_nonneg g lo hi) fun t ht => ?_
  rw [amt_lt _ lo hi ht, amt_lt _ lo hi ht]
  constructor
  · rintro ⟨x, hx, hh, z⟩
    rcases List.mem_append.mp hx with m | m
    · rcases List.mem_append.mp m with m | m
      · exact ⟨x, List.mem_reverse.mp m, hh, z⟩
      · exact ⟨x, m, hh, z⟩
    · rw [List.mem_singleton.mp m] at z
      omega
  · rintro ⟨x, m, hh, z⟩
    exact ⟨x, List.mem_append_left _ (List.mem_append_right _ m), hh, z⟩
theorem amt_mono {T : List Ent} (g : Good T) {lo hi lo2 hi2 : Int} (h1 : lo ≤ lo2) (h2 : hi2 ≤ hi) : amt T lo2 hi2 ≤ amt T lo hi := by
  apply Classical.byContradiction
  intro z
  have n := amt_nonneg g lo hi
  obtain ⟨x, m, hh, k⟩ := (amt_lt T lo2 hi2 n).mp (by omega)
  have := (amt_lt T lo hi n).mpr ⟨x, m, by omega, k⟩
  omega
def wear (T : List Ent) (rs : List (Int × Int)) : Int := (rs.map fun r => amt T r.1 r.2).sum
theorem wear_app (T : List Ent) (rs ss : List (Int × Int)) : wear T (rs ++ ss) = wear T rs + wear T ss := by
  unfold wear
  rw [List.map_append, List.sum_append]
def Ut (T : List Ent) (t : Nat) (a b : Int) : Bool := decide ((t : Int) < amt T a b)
theorem up_t {T : List Ent} (g : Good T) (t : Nat) : Up (Ut T t) := by
  constructor
  · intro a b c d h1 h2 h
    have h := of_decide_eq_true h
    have := amt_mono g h1 h2
    exact decide_eq_true (by omega)
  · intro a b h
    have h := of_decide_eq_true h
    obtain ⟨x, m, hh, _⟩ := (amt_lt T a b (Int.natCast_nonneg t)).mp h
    have := (g x m).1
    omega
def cut (T : List Ent) (M : Nat) (rs : List (Int × Int)) : Int := (rs.map fun r => if amt T r.1 r.2 ≤ M then amt T r.1 r.2 else (M : Int)).sum
theorem cut_succ {T : List Ent} (g : Good T) (M : Nat) : ∀ rs : List (Int × Int), cut T (M + 1) rs = cut T M rs + nU (Ut T M) rs
  | [] => rfl
  | r :: rs => by
    have ih := cut_succ g M rs
    rw [nU_cons]
    show (if amt T r.1 r.2 ≤ ((M + 1 : Nat) : Int) then amt T r.1 r.2 else ((M + 1 : Nat) : Int)) + cut T (M + 1) rs = (if amt T r.1 r.2 ≤ (M : Int) then amt T r.1 r.2 else (M : Int)) + cut T M rs + _
    rw [ih]
    have e : Ut T M r.1 r.2 = decide ((M : Int) < amt T r.1 r.2) := rfl
    by_cases h : (M : Int) < amt T r.1 r.2
    · have e2 : b2 (Ut T M r.1 r.2) = 1 := by rw [e, decide_eq_true h]; rfl
      rw [e2, if_neg (by omega : ¬ amt T r.1 r.2 ≤ (M : Int))]
      split <;> omega
    · have e2 : b2 (Ut T M r.1 r.2) = 0 := by rw [e, decide_eq_false h]; rfl
      rw [e2, if_pos (by omega), if_pos (by omega)]
      omega
theorem cut_zero {T : List Ent} (g : Good T) : ∀ rs : List (Int × Int), cut T 0 rs = 0
  | [] => rfl
  | r :: rs => by
    have ih := cut_zero g rs
    have := amt_nonneg g r.1 r.2
    show (if amt T r.1 r.2 ≤ ((0 : Nat) : Int) then amt T r.1 r.2 else ((0 : Nat) : Int)) + cut T 0 rs = 0
    rw [ih]
    split <;> omega
theorem wear_nonneg {T : List Ent} (g : Good T) : ∀ rs : List (Int × Int), 0 ≤ wear T rs
  | [] => Int.le_refl _
  | r :: rs => by
    have ih := wear_nonneg g rs
    have := amt_nonneg g r.1 r.2
    show 0 ≤ amt T r.1 r.2 + wear T rs
    omega
theorem cut_all {T : List Ent} (g : Good T) (M : Nat) : ∀ rs : List (Int × Int), wear T rs ≤ M → cut T M rs = wear T rs
  | [], _ => rfl
  | r :: rs, h => by
    have n1 := wear_nonneg g rs
    have n2 := amt_nonneg g r.1 r.2
    have h2 : amt T r.1 r.2 + wear T rs ≤ M := h
    have ih := cut_all g M rs (by omega)
    show (if amt T r.1 r.2 ≤ (M : Int) then amt T r.1 r.2 else (M : Int)) + cut T M rs = amt T r.1 r.2 + wear T rs
    rw [ih, if_pos (by omega)]
theorem wear_le {T : List Ent} (g : Good T) {rs ss : List (Int × Int)} (h : ∀ U, Up U → nU U rs ≤ nU U ss) : wear T rs ≤ wear T ss := by
  have key : ∀ M, cut T M rs ≤ cut T M ss := by
    intro M
    induction M with
    | zero => rw [cut_zero g, cut_zero g]; exact Int.le_refl _
    | succ M ih =>
      rw [cut_succ g, cut_succ g]
      have := h _ (up_t g M)
      omega
  have n1 := wear_nonneg g rs
  have n2 := wear_nonneg g ss
  have k := key (wear T rs + wear T ss).toNat
  rw [cut_all g _ rs (by omega), cut_all g _ ss (by omega)] at k
  exact k
/-- a load with readings left out wears no more -/
theorem wear_sub {T : List Ent} (g : Good T) {less load : List Int} (t : less.Sublist load) {cs ds cs2 ds2 : List (Int × Int)} {rs rs2 : List Int} {hs hs2 : List (Int × Int)}
    (r : Run (tp load) cs rs) (n : NF rs) (p : ds.Perm cs) (h : hs.Perm (ds ++ ds ++ sw rs)) (r2 : Run (tp less) cs2 rs2) (n2 : NF rs2) (p2 : ds2.Perm cs2) (h2 : hs2.Perm (ds2 ++ ds2 ++ sw rs2)) : wear T hs2 ≤ wear T hs := by
  refine wear_le g fun U up => ?_
  have c1 := count_g up r n
  have c2 := count_g up r2 n2
  have := sub_le up t
  have e1 : nU U hs = 2 * nU U cs + nU U (sw rs) := by
    have q : nU U ds = nU U cs := p.countP_eq _
    have : nU U hs = nU U (ds ++ ds ++ sw rs) := h.countP_eq _
    rw [this]
    unfold nU at *
    rw [List.countP_append, List.countP_append, q]
    omega
  have e2 : nU U hs2 = 2 * nU U cs2 + nU U (sw rs2) := by
    have q : nU U ds2 = nU U cs2 := p2.countP_eq _
    have : nU U hs2 = nU U (ds2 ++ ds2 ++ sw rs2) := h2.countP_eq _
    rw [this]
    unfold nU at *
    rw [List.countP_append, List.countP_append, q]
    omega
  omega
end K52b

/-! max(xs, default=d) of a list of ints -/
namespace GM
open PySem PySem.Spec PyProof.Rows L2 PH
def topD (d : Int) : List Int → Int
  | [] => d
  | n :: ns => ns.foldl max n
theorem alike_ints (ns : List Int) : PySem.W.AlikeAll (ns.map PyData.int) := by
  refine ⟨fun x hx y hy => ?_, fun x hx => ?_⟩
  · obtain ⟨a, _, rfl⟩ := List.mem_map.mp hx
    obtain ⟨b, _, rfl⟩ := List.mem_map.mp hy
    rfl
  · obtain ⟨a, _, rfl⟩ := List.mem_map.mp hx
    intro h
    cases h
theorem depth_ints : ∀ ns : List Int, PyData.depthAll (ns.map PyData.int) ≤ 1
  | [] => Nat.zero_le _
  | n :: ns => by
    have := depth_ints ns
    simp only [List.map_cons, PyData.depthAll, PyData.depth]
    omega
section
variable {X : Cx}
def rMaxD (K : PySem.W.Frag) : List V → List V → Hp → VK → Prop := fun vs zs H Q => ∃ (a : Addr) (ns : List Int) (d : Int), vs = [V.ref a] ∧ zs = [V.int d] ∧ SqL K H a (ns.map V.int) ∧ Q (.int (topD d ns)) H
theorem cr_maxD (hc : X.calm = true) (hu : X.A.units + 100 < cLine) : CallRK X (.builtin "max") [Str.ofString "default"] (rMaxD X.K) := by
  intro pins s σ H xs zs us ws Q I rx rz h
  obtain ⟨a, ns, d, rfl, rfl, hs, q⟩ := h
  obtain ⟨its, rv, hl, _⟩ := I.list hs
  rw [Vals.ref1 rx]
  obtain ⟨t, rfl⟩ : ∃ t, ws = [Value.int d t] := by
    cases rz with
    | cons r1 r2 =>
      obtain ⟨t, rfl⟩ := r1
      cases r2
      exact ⟨t, rfl⟩
  have ra := ints_readAll s.heap rv.ints
  show wpAny _ _ (call (.builtin "max") [.ref a] [(Str.ofString "default", .int d t)]) _ _ s
  refine PySem.W.max_list_default (I.ok.hd hc) hl.isList ra (alike_ints ns) (by have := depth_ints ns; omega) (fun e h' tk hk => ?_) (fun y ys i v h' tk bs e hv rd hk => ?_)
  · have : ns = [] := by
      cases ns with
      | nil => rfl
      | cons _ _ => cases e
    subst this
    exact ⟨.int d, H, I.kept hk, ⟨_, rfl⟩, q⟩
  · cases ns with
    | nil => cases e
    | cons n ns =>
      cases e
      rw [PySem.W.maxD_ints] at rd
      cases rd with
      | int i t2 => exact ⟨.int _, H, I.kept hk, ⟨_, rfl⟩, q⟩
end
end GM

/-! tables -/
namespace XT
open PySem PySem.Spec PyProof.Rows L2 KA KD PH PM RM K52b
abbrev sTable : Stmt := topS 15
abbrev sTI : Stmt := inClass sTable 0
abbrev sTA : Stmt := inClass sTable 2
abbrev sTW : Stmt := inClass sTable 3
theorem scTI : FnScope ["self", "entries", "low", "high", "amount"] ["self", "entries"] (defScope sTI) := ⟨rfl, rfl, rfl, by decide +kernel, rfl, by decide +kernel, by decide +kernel⟩
theorem scTA : FnScope ["self", "low", "high", "amounts", "amount", "start", "end"] ["self", "low", "high"] (defScope sTA) := ⟨rfl, rfl, rfl, by decide +kernel, rfl, by decide +kernel, by decide +kernel⟩
theorem scTW : FnScope ["self", "ranges", "low", "high"] ["self", "ranges"] (defScope sTW) := ⟨rfl, rfl, rfl, by decide +kernel, rfl, by decide +kernel, by decide +kernel⟩
theorem pairs_get {H : Hp} : ∀ {xs : List V} {rs : List (Int × Int)} {i : Nat} {x : V}, PairsAt H xs rs → xs[i]? = some x → ∃ p r, x = .ref p ∧ rs[i]? = some r ∧ H p = some (.tup [.int r.1, .int r.2])
  | x :: xs, r :: rs, 0, y, ⟨⟨p, h1, h2⟩, _⟩, e => ⟨p, r, by rw [← h1]; exact (Option.some.inj e).symm, rfl, h2⟩
  | x :: xs, r :: rs, i + 1, y, ⟨_, h⟩, e => pairs_get (xs := xs) (rs := rs) (i := i) h e
  | [], [], _, _, _, e => by simp at e
  | [], _ :: _, _, _, h, _ => h.elim
  | _ :: _, [], _, _, h, _ => h.elim
def tri (e : Ent) : HO := .tup [.int e.1, .int e.2.1, .int e.2.2]
/-- a list's items are entries -/
def TripsAt (H : Hp) : List V → List Ent → Prop
  | [], [] => True
  | x :: xs, e :: es => (∃ p, x = .ref p ∧ H p = some (tri e)) ∧ TripsAt H xs es
  | _, _ => False
theorem TripsAt.length {H : Hp} : ∀ {xs : List V} {es : List Ent}, TripsAt H xs es → xs.length = es.length
  | [], [], _ => rfl
  | _ :: _, _ :: _, h => by simp [h.2.length]
  | [], _ :: _, h => h.elim
  | _ :: _, [], h => h.elim
theorem TripsAt.get {H : Hp} : ∀ {xs : List V} {es : List Ent} {i : Nat} {x : V}, TripsAt H xs es → xs[i]? = some x → ∃ p e, x = .ref p ∧ es[i]? = some e ∧ H p = some (tri e)
  | x :: xs, e :: es, 0, y, ⟨⟨p, h1, h2⟩, _⟩, k => ⟨p, e, by rw [← h1]; exact (Option.some.inj k).symm, rfl, h2⟩
  | x :: xs, e :: es, i + 1, y, ⟨_, h⟩, k => TripsAt.get (xs := xs) (es := es) (i := i) h k
  | [], [], _, _, _, k => by simp at k
  | [], _ :: _, _, _, h, _ => h.elim
  | _ :: _, [], _, _, h, _ => h.elim
theorem TripsAt.map {H H' : Hp} (k : ∀ p e, H p = some (tri e) → H' p = some (tri e)) : ∀ {xs : List V} {es : List Ent}, TripsAt H xs es → TripsAt H' xs es
  | [], [], _ => trivial
  | _ :: _, _ :: _, ⟨⟨p, h1, h2⟩, h⟩ => ⟨⟨p, h1, k p _ h2⟩, TripsAt.map k h⟩
  | [], _ :: _, h => h.elim
  | _ :: _, [], h => h.elim
theorem TripsAt.same {H H' : Hp} {xs : List V} {es : List Ent} (h : TripsAt H xs es) (s : Same H H') : TripsAt H' xs es := h.map fun p e q => s _ _ q
theorem TripsAt.but {H H' : Hp} {D : Addr} {acc : List V} {xs : List V} {es : List Ent} (h : TripsAt H xs es) (k : ∀ b o, b ≠ D → H b = some o → H' b = some o) (hD : H D = some (.lst acc)) : TripsAt H' xs es := h.map fun p e q => k p _ (fun z => by rw [z, hD] at q; cases q) q
theorem TripsAt.ch {H H' : Hp} {f : Addr} {xs : List V} {es : List Ent} (h : TripsAt H xs es) (c : Ch f H H') (fe : ∃ acc, H f = some (.lst acc)) : TripsAt H' xs es := h.map fun p e q => by
  obtain ⟨acc, ha⟩ := fe
  exact c _ _ (fun z => by rw [z, ha] at q; cases q) q
theorem TripsAt.app {H : Hp} : ∀ {xs ys : List V} {es fs : List Ent}, TripsAt H xs es → TripsAt H ys fs → TripsAt H (xs ++ ys) (es ++ fs)
  | [], _, [], _, _, g => g
  | _ :: _, _, _ :: _, _, ⟨h1, h⟩, g => ⟨h1, TripsAt.app h g⟩
  | [], _, _ :: _, _, h, _ => h.elim
  | _ :: _, _, [], _, h, _ => h.elim
theorem trips_one {H : Hp} {p : Addr} {e : Ent} (h : H p = some (tri e)) : TripsAt H [.ref p] [e] := ⟨⟨p, rfl, h⟩, trivial⟩
theorem TripsAt.rev {H : Hp} : ∀ {xs : List V} {es : List Ent}, TripsAt H xs es → TripsAt H xs.reverse es.reverse
  | [], [], _ => trivial
  | x :: xs, e :: es, ⟨⟨p, h1, h2⟩, h⟩ => by
    rw [List.reverse_cons, List.reverse_cons, h1]
    exact (TripsAt.rev h).app (trips_one h2)
  | [], _ :: _, h => h.elim
  | _ :: _, [], h => h.elim
/-- a table stands at x -/
def TabAt (H : Hp) (C x : Addr) (T : List Ent) : Prop := ∃ (dx t : Addr) (ys : List V), H x = some (.ins C dx [("entries", .ref t)]) ∧ H t = some (.tup ys) ∧ TripsAt H ys T
theorem TabAt.same {H H' : Hp} {C x : Addr} {T : List Ent} (h : TabAt H C x T) (s : Same H H') : TabAt H' C x T := by
  obtain ⟨dx, t, ys, h1, h2, h3⟩ := h
  exact ⟨dx, t, ys, s _ _ h1, s _ _ h2, h3.same s⟩
theorem TabAt.ch {H H' : Hp} {C x f : Addr} {T : List Ent} (h : TabAt H C x T) (c : Ch f H H') (fe : ∃ acc, H f = some (.lst acc)) : TabAt H' C x T := by
  obtain ⟨dx, t, ys, h1, h2, h3⟩ := h
  obtain ⟨acc, ha⟩ := id fe
  exact ⟨dx, t, ys, c _ _ (fun z => by rw [z, ha] at h1; cases h1) h1, c _ _ (fun z => by rw [z, ha] at h2; cases h2) h2, h3.ch c fe⟩
structure Tbl (K : PySem.W.Frag) (C : Addr) : Prop where
  cl : Cls K C
  nE : NoAttr K C "entries"
theorem hu_of {k : Nat} {A : Around} (r : Room k A) : A.units + 100 < cLine := by have := r.un; omega
section
variable {P : Program} {w : World} {K : PySem.W.Frag} {mg : Str → Option Value} {base : Heap} {C : Addr}
def spTI (K : PySem.W.Frag) (C : Addr) : Sp := fun vs H Q _ => ∃ (x c dx : Addr) (xs : List V) (T : List Ent), vs = [.ref x, .ref c] ∧ H x = some (.ins C dx []) ∧ Sq K H c xs ∧ TripsAt H xs T ∧ T.length ≤ 500 ∧
  ∀ H', (∀ b o, b ≠ x → H b = some o → H' b = some o) → TabAt H' C x T → Q .non H'
theorem ok_TI {f : Addr} {fd : FuncData} {k : Nat} (F : Fun K "__init__" "Table.__init__" sTI f fd) (T : Tbl K C) (mt : mg "tuple" = none) : FnOk P w K mg base CX0 (k + 1) f fd ["self", "entries"] (spTI K C) := by
  refine F.ok scTI (fun vs H Q E h => ?_) (fun cdv A outer s H vs Q E hr h => ?_)
  · obtain ⟨x, c, dx, xs, T, rfl, _⟩ := h
    rfl
  · obtain ⟨x, c, dx, xs, es, rfl, hx, hc, tr, le, hq⟩ := h
    refine ⟨_, pss_one (ps_fld (pv 0) (pe_callTy call_tuple_of (by rfl) mt (by decide +kernel) (pa_cons (pe_lc (own := [("low", 2), ("high", 3), ("amount", 4)]) (g := gTup K 3 (gCons (gName 2) (gCons (gName 3) (gCons (gName 4) gNil)))) (tt := tYes) (te := tTup (tCons (tVar 2) (tCons (tVar 3) (tCons (tVar 4) tNil)))) rfl scTI.nd (GB.pi_both (pv 1)) (blkOk_by (own := [("low", 2), ("high", 3), ("amount", 4)]) (N := ["self", "entries", "low", "high", "amount"]) (sc := defScope sTI) (by decide +kernel))
        (fun _ _ _ _ _ => pg_tup rfl (pgs_cons (pg_name (i := 2) scTI.nd rfl (Or.inl rfl) (Or.inr rfl)) (pgs_cons (pg_name (i := 3) scTI.nd rfl (Or.inl rfl) (Or.inr rfl)) (pgs_cons (pg_name (i := 4) scTI.nd rfl (Or.inl rfl) (Or.inr rfl)) pgs_nil)))) (fun _ _ _ _ _ => pts_nil)
        (fun _ _ _ _ _ => pe_tup (pa_cons (pv 2) (pa_cons (pv 3) (pa_cons (pv 4) pa_nil))))) pa_nil)) rfl), ?_⟩
    have ll := tr.length
    rcases hc with hc | hc
    · refine ⟨.ref c, rfl, c, rfl, .inl ⟨⟨_, hc⟩, fun D nD => ?_⟩⟩
      refine lc_list (K := K) (a := c) (xs := xs) (fun i Hz => Same H Hz ∧ ∃ acc : List V, Hz D = some (.lst acc) ∧ TripsAt Hz acc (es.take i)) ⟨same_new nD, [], upd_same, trivial⟩ (fun i Hz _ z => z.1.seq hc) ?_ ?_
      · rintro i y Hz hy ⟨sz, acc, eD, ta⟩
        obtain ⟨p, e, rfl, ee, hp⟩ := tr.get hy
        have hi2 := (List.getElem?_eq_some_iff.mp hy).1
        refine ⟨p, _, rfl, SqT.of (sz _ _ hp), rfl, .int e.1, [.int e.2.1, .int e.2.2], rfl, .int e.2.1, [.int e.2.2], rfl, .int e.2.2, [], rfl, rfl, rfl, iteT (B := True) ?_⟩
        refine ⟨.int e.1, rfl, .int e.2.1, rfl, .int e.2.2, rfl, by show 3 ≤ sizeLine; decide, fun q nq => ?_⟩
        have sq := same_new (o := tri e) nq
        have la := ta.length
        rw [List.length_take] at la
        have eD2 := sq _ _ eD
        refine ⟨acc, eD2, Nat.lt_of_le_of_lt (show acc.length ≤ 3000 by omega) (by decide), same_again nD (sz.trans sq), acc ++ [.ref q], upd_same, ?_⟩
        rw [List.take_add_one, ee]
        exact ((ta.same sq).app (trips_one (e := e) upd_same)).but (fun b o n e => by rw [upd_ne n]; exact e) eD2
      rintro H1 ⟨s1, acc, eD, ta⟩
      rw [ll, List.take_length] at ta
      refine ⟨D, acc, rfl, .inl ⟨SqL.of eD, fun t nt => ?_⟩⟩
      have s2 := s1.trans (same_new (o := .tup acc) nt)
      have et := upd_same (H := H1) (a := t) (o := .tup acc)
      have ta2 := ta.same (same_new (o := .tup acc) nt)
      generalize upd H1 t (.tup acc) = H2 at s2 et ta2 ⊢
      have hx2 := s2 _ _ hx
      refine ⟨.ref x, rfl, x, C, dx, [], rfl, hx2, T.cl, T.nE, by decide, ?_⟩
      have keep : ∀ b o, b ≠ x → H2 b = some o → (upd H2 x (.ins C dx (putF "entries" (.ref t) []))) b = some o := fun b o nb e => by rw [upd_ne nb]; exact e
      refine hq _ (fun b o nb e => keep b o nb (s2 _ _ e)) ⟨dx, t, acc, ?_, ?_, ?_⟩
      · rw [upd_same]; rfl
      · exact keep _ _ (fun z => by rw [z, hx2] at et; cases et) et
      · exact ta2.map fun p e q => keep p _ (fun z => by rw [z, hx2] at q; cases q) q
    · refine ⟨.ref c, rfl, c, rfl, .inr ⟨⟨_, hc⟩, fun D nD => ?_⟩⟩
      refine lc_tup (K := K) (a := c) (xs := xs) (fun i Hz => Same H Hz ∧ ∃ acc : List V, Hz D = some (.lst acc) ∧ TripsAt Hz acc (es.take i)) ⟨same_new nD, [], upd_same, trivial⟩ (fun i Hz _ z => SqT_same z.1 hc) ?_ ?_
      · rintro i y Hz hy ⟨sz, acc, eD, ta⟩
        obtain ⟨p, e, rfl, ee, hp⟩ := tr.get hy
        have hi2 := (List.getElem?_eq_some_iff.mp hy).1
        refine ⟨p, _, rfl, SqT.of (sz _ _ hp), rfl, .int e.1, [.int e.2.1, .int e.2.2], rfl, .int e.2.1, [.int e.2.2], rfl, .int e.2.2, [], rfl, rfl, rfl, iteT (B := True) ?_⟩
        refine ⟨.int e.1, rfl, .int e.2.1, rfl, .int e.2.2, rfl, by show 3 ≤ sizeLine; decide, fun q nq => ?_⟩
        have sq := same_new (o := tri e) nq
        have la := ta.length
        rw [List.length_take] at la
        have eD2 := sq _ _ eD
        refine ⟨acc, eD2, Nat.lt_of_le_of_lt (show acc.length ≤ 3000 by omega) (by decide), same_again nD (sz.trans sq), acc ++ [.ref q], upd_same, ?_⟩
        rw [List.take_add_one, ee]
        exact ((ta.same sq).app (trips_one (e := e) upd_same)).but (fun b o n e => by rw [upd_ne n]; exact e) eD2
      rintro H1 ⟨s1, acc, eD, ta⟩
      rw [ll, List.take_length] at ta
      refine ⟨D, acc, rfl, .inl ⟨SqL.of eD, fun t nt => ?_⟩⟩
      have s2 := s1.trans (same_new (o := .tup acc) nt)
      have et := upd_same (H := H1) (a := t) (o := .tup acc)
      have ta2 := ta.same (same_new (o := .tup acc) nt)
      generalize upd H1 t (.tup acc) = H2 at s2 et ta2 ⊢
      have hx2 := s2 _ _ hx
      refine ⟨.ref x, rfl, x, C, dx, [], rfl, hx2, T.cl, T.nE, by decide, ?_⟩
      have keep : ∀ b o, b ≠ x → H2 b = some o → (upd H2 x (.ins C dx (putF "entries" (.ref t) []))) b = some o := fun b o nb e => by rw [upd_ne nb]; exact e
      refine hq _ (fun b o nb e => keep b o nb (s2 _ _ e)) ⟨dx, t, acc, ?_, ?_, ?_⟩
      · rw [upd_same]; rfl
      · exact keep _ _ (fun z => by rw [z, hx2] at et; cases et) et
      · exact ta2.map fun p e q => keep p _ (fun z => by rw [z, hx2] at q; cases q) q
def spTA (C : Addr) : Sp := fun vs H Q _ => ∃ (x : Addr) (T : List Ent) (lo hi : Int), vs = [.ref x, .int lo, .int hi] ∧ TabAt H C x T ∧ T.length ≤ 500 ∧ ∀ H', Same H H' → Q (.int (amt T lo hi)) H'
theorem amts_take {T : List Ent} {lo hi : Int} {i : Nat} {e : Ent} (h : T[i]? = some e) : amts (T.take (i + 1)) lo hi = amts (T.take i) lo hi ++ (if has lo hi e = true then [e.2.2] else []) := by
  unfold amts
  rw [List.take_add_one, h]
  show List.map _ (List.filter _ (T.take i ++ [e])) = _
  rw [List.filter_append, List.map_append]
  congr 1
  cases k : has lo hi e <;> simp [List.filter, k]
theorem amts_len (T : List Ent) (lo hi : Int) : (amts T lo hi).length ≤ T.length := by
  unfold amts
  rw [List.length_map]
  exact List.length_filter_le _ _
theorem ok_TA {f : Addr} {fd : FuncData} {k : Nat} (F : Fun K "amount" "Table.amount" sTA f fd) (T : Tbl K C) (mm : mg "max" = none) :
    FnOk P w K mg base CX0 (k + 1) f fd ["self", "low", "high"] (spTA C) := by
  refine F.ok scTA (fun vs H Q E h => ?_) (fun cdv A outer s H vs Q E hr h => ?_)
  · obtain ⟨x, T, lo, hi, rfl, _⟩ := h
    rfl
  · obtain ⟨x, es, lo, hi, rfl, ⟨dx, t, ys, hx, ht, tr⟩, le, hq⟩ := h
    refine ⟨_, pss_cons (ps_setLc (i := 3) (own := [("amount", 4), ("start", 5), ("end", 6)]) (g := gTup K 3 (gCons (gName 5) (gCons (gName 6) (gCons (gName 4) gNil)))) (te := tVar 4) rfl scTA.nd rfl rfl (sw_true rfl rfl rfl (by decide +kernel)) (pi_tup (pe_fld (pv 0) rfl))
        (blkOk_by (own := [("amount", 4), ("start", 5), ("end", 6)]) (N := ["self", "low", "high", "amounts", "amount", "start", "end"]) (sc := defScope sTA) (by decide +kernel))
        (fun _ _ _ _ _ => pg_tup rfl (pgs_cons (pg_name (i := 5) scTA.nd rfl (Or.inl rfl) (Or.inr rfl)) (pgs_cons (pg_name (i := 6) scTA.nd rfl (Or.inl rfl) (Or.inr rfl)) (pgs_cons (pg_name (i := 4) scTA.nd rfl (Or.inl rfl) (Or.inr rfl)) pgs_nil))))
        (fun _ _ _ _ _ => pts_one (PW.pt (pw_and (pt_cmpR op_le (pv 1) (pv 5) (nomark _)) (pw_and1 (pt_cmpR op_le (pv 6) (pv 2) (nomark _))))))
        (fun _ _ _ _ _ => pv 4))
      (pss_one (ps_ret (pe_callBK (GM.cr_maxD rfl (hu_of hr)) (by rfl) mm (by decide +kernel) (pa_cons (pv 3) pa_nil) (pk_cons pe_int pk_nil)))), ?_⟩
    have ll := tr.length
    refine ⟨.ref x, rfl, x, C, dx, _, .ref t, rfl, hx, T.cl, T.nE, rfl, t, rfl, ⟨_, SqT.of ht⟩, fun D nD => ?_⟩
    refine lc_tup (K := K) (a := t) (xs := ys) (fun i Hz => Same H Hz ∧ Hz D = some (.lst ((amts (es.take i) lo hi).map V.int))) ⟨same_new nD, upd_same⟩ (fun i Hz _ z => SqT.of (z.1 _ _ ht)) ?_ ?_
    · rintro i y Hz hy ⟨sz, eD⟩
      obtain ⟨p, e, rfl, ee, hp⟩ := tr.get hy
      have l2 : 2 ≤ sizeLine := by decide
      refine ⟨p, _, rfl, SqT.of (sz _ _ hp), rfl, .int e.1, [.int e.2.1, .int e.2.2], rfl, .int e.2.1, [.int e.2.2], rfl, .int e.2.2, [], rfl, rfl, rfl, ?_⟩
      have st := amts_take (lo := lo) (hi := hi) ee
      have la := amts_len (es.take i) lo hi
      rw [List.length_take] at la
      have eh : has lo hi e = (decide (lo ≤ e.1) && decide (e.2.1 ≤ hi)) := rfl
      refine ⟨.int lo, rfl, .int e.1, rfl, lo, e.1, rfl, rfl, _, rfl, ?_⟩
      have yes : has lo hi e = true → Hz D = some (.lst ((amts (es.take i) lo hi).map V.int)) → True := fun _ _ => trivial
      by_cases c1 : lo ≤ e.1
      · rw [decide_eq_true c1, Bool.true_and] at eh
        rw [decide_eq_true c1]
        refine iteT ⟨.int e.2.1, rfl, .int hi, rfl, e.2.1, hi, rfl, rfl, _, rfl, ?_⟩
        rw [← eh]
        cases k : has lo hi e with
        | true =>
          rw [k, if_pos rfl] at st
          refine iteT ⟨.int e.2.2, rfl, _, eD, ?_, same_again nD sz, ?_⟩
          · rw [List.length_map]; exact Nat.lt_of_le_of_lt (show _ ≤ 3000 by omega) (by decide)
          · rw [upd_same, st, List.map_append]; rfl
        | false =>
          rw [k, if_neg (by simp), List.append_nil] at st
          exact iteF ⟨sz, by rw [st]; exact eD⟩
      · rw [decide_eq_false c1, Bool.false_and] at eh
        rw [decide_eq_false c1]
        rw [eh, if_neg (by simp), List.append_nil] at st
        refine iteF ?_
        refine iteF ?_
        exact ⟨sz, by rw [st]; exact eD⟩
    rintro H1 ⟨s1, eD⟩
    rw [ll, List.take_length] at eD
    refine ⟨.ref D, rfl, D, amts es lo hi, 0, rfl, rfl, SqL.of eD, ?_⟩
    have et : GM.topD 0 (amts es lo hi) = amt es lo hi := by unfold amt; cases amts es lo hi <;> rfl
    rw [et]
    exact hq _ s1
def spTWl (K : PySem.W.Frag) (C : Addr) : Sp := fun vs H Q _ => ∃ (x a : Addr) (T : List Ent) (xs : List V) (rs : List (Int × Int)), vs = [.ref x, .ref a] ∧ TabAt H C x T ∧ T.length ≤ 500 ∧ SqL K H a xs ∧ PairsAt H xs rs ∧ rs.length ≤ 2000 ∧ ∀ H', Same H H' → Q (.int (wear T rs)) H'
def spTWt (K : PySem.W.Frag) (C : Addr) : Sp := fun vs H Q _ => ∃ (x a : Addr) (T : List Ent) (xs : List V) (rs : List (Int × Int)), vs = [.ref x, .ref a] ∧ TabAt H C x T ∧ T.length ≤ 500 ∧ SqT K H a xs ∧ PairsAt H xs rs ∧ rs.length ≤ 2000 ∧ ∀ H', Same H H' → Q (.int (wear T rs)) H'
theorem ok_TWl {f fA : Addr} {fd dA : FuncData} {k : Nat} (F : Fun K "wear" "Table.wear" sTW f fd) (T : Tbl K C) (mA : Meth K C "amount" fA) (GA : FnOk P w K mg base CX0 (k + 2) fA dA ["self", "low", "high"] (spTA C)) (bA : Binds K dA ["self", "low", "high"] []) (ms : mg "sum" = none) :
    FnOk P w K mg base CX0 (k + 3) f fd ["self", "ranges"] (spTWl K C) := by
  refine F.ok scTW (fun vs H Q E h => ?_) (fun cdv A outer s H vs Q E hr h => ?_)
  · obtain ⟨x, a, T, xs, rs, rfl, _⟩ := h
    rfl
  · obtain ⟨x, a, es, xs, rs, rfl, tab, le, hS, pa, lr, hq⟩ := h
    refine ⟨_, pss_one (ps_ret (pe_callB (cr_sum rfl) (by rfl) ms (by decide +kernel) (pa_cons (pe_lc (own := [("low", 2), ("high", 3)]) (g := gTup K 2 (gCons (gName 2) (gCons (gName 3) gNil))) (tt := tYes) (te := tMeth C "amount" (spTA C) [] E0 (tVar 0) (tCons (tVar 2) (tCons (tVar 3) tNil))) rfl scTW.nd (pi_list (pv 1)) (blkOk_by (own := [("low", 2), ("high", 3)]) (N := ["self", "ranges", "low", "high"]) (sc := defScope sTW) (by decide +kernel))
        (fun _ _ _ _ _ => pg_tup rfl (pgs_cons (pg_name (i := 2) scTW.nd rfl (Or.inl rfl) (Or.inr rfl)) (pgs_cons (pg_name (i := 3) scTW.nd rfl (Or.inl rfl) (Or.inr rfl)) pgs_nil))) (fun _ _ _ _ _ => pts_nil)
        (fun _ _ _ _ _ => pe_meth (pv 0) T.cl mA GA hr bA .nil pass0 (pa_cons (pv 2) (pa_cons (pv 3) pa_nil)))) pa_nil))), ?_⟩
    have ll := pa.length
    refine ⟨.ref a, rfl, a, rfl, ⟨_, hS⟩, fun D nD => ?_⟩
    refine lc_list (K := K) (a := a) (xs := xs) (fun i Hz => Same H Hz ∧ Hz D = some (.lst (((rs.take i).map fun r => amt es r.1 r.2).map V.int))) ⟨same_new nD, upd_same⟩ (fun i Hz _ z => z.1.seq hS) ?_ ?_
    · rintro i y Hz hy ⟨sz, eD⟩
      obtain ⟨p, r, rfl, er, hp⟩ := pairs_get pa hy
      obtain ⟨dx, t, ys, hx, _⟩ := id tab
      refine ⟨p, _, rfl, SqT.of (sz _ _ hp), rfl, .int r.1, [.int r.2], rfl, .int r.2, [], rfl, rfl, rfl, iteT (B := True) ?_⟩
      refine ⟨.ref x, rfl, x, dx, _, rfl, sz _ _ hx, rfl, .int r.1, rfl, .int r.2, rfl, x, es, r.1, r.2, rfl, tab.same sz, le, fun H2 s2 => ?_⟩
      refine ⟨_, s2 _ _ eD, ?_, same_again nD (sz.trans s2), ?_⟩
      · rw [List.length_map, List.length_map, List.length_take]; exact Nat.lt_of_le_of_lt (show _ ≤ 3000 by omega) (by decide)
      · rw [upd_same, List.take_add_one, er, List.map_append, List.map_append]; rfl
    rintro H1 ⟨s1, eD⟩
    rw [ll, List.take_length] at eD
    exact ⟨D, _, rfl, SqL.of eD, hq _ s1⟩
theorem ok_TWt {f fA : Addr} {fd dA : FuncData} {k : Nat} (F : Fun K "wear" "Table.wear" sTW f fd) (T : Tbl K C) (mA : Meth K C "amount" fA) (GA : FnOk P w K mg base CX0 (k + 2) fA dA ["self", "low", "high"] (spTA C)) (bA : Binds K dA ["self", "low", "high"] []) (ms : mg "sum" = none) :
    FnOk P w K mg base CX0 (k + 3) f fd ["self", "ranges"] (spTWt K C) := by
  refine F.ok scTW (fun vs H Q E h => ?_) (fun cdv A outer s H vs Q E hr h => ?_)
  · obtain ⟨x, a, T, xs, rs, rfl, _⟩ := h
    rfl
  · obtain ⟨x, a, es, xs, rs, rfl, tab, le, hS, pa, lr, hq⟩ := h
    refine ⟨_, pss_one (ps_ret (pe_callB (cr_sum rfl) (by rfl) ms (by decide +kernel) (pa_cons (pe_lc (own := [("low", 2), ("high", 3)]) (g := gTup K 2 (gCons (gName 2) (gCons (gName 3) gNil))) (tt := tYes) (te := tMeth C "amount" (spTA C) [] E0 (tVar 0) (tCons (tVar 2) (tCons (tVar 3) tNil))) rfl scTW.nd (pi_tup (pv 1)) (blkOk_by (own := [("low", 2), ("high", 3)]) (N := ["self", "ranges", "low", "high"]) (sc := defScope sTW) (by decide +kernel))
        (fun _ _ _ _ _ => pg_tup rfl (pgs_cons (pg_name (i := 2) scTW.nd rfl (Or.inl rfl) (Or.inr rfl)) (pgs_cons (pg_name (i := 3) scTW.nd rfl (Or.inl rfl) (Or.inr rfl)) pgs_nil))) (fun _ _ _ _ _ => pts_nil)
        (fun _ _ _ _ _ => pe_meth (pv 0) T.cl mA GA hr bA .nil pass0 (pa_cons (pv 2) (pa_cons (pv 3) pa_nil)))) pa_nil))), ?_⟩
    have ll := pa.length
    refine ⟨.ref a, rfl, a, rfl, ⟨_, hS⟩, fun D nD => ?_⟩
    refine lc_tup (K := K) (a := a) (xs := xs) (fun i Hz => Same H Hz ∧ Hz D = some (.lst (((rs.take i).map fun r => amt es r.1 r.2).map V.int))) ⟨same_new nD, upd_same⟩ (fun i Hz _ z => SqT_same z.1 hS) ?_ ?_
    · rintro i y Hz hy ⟨sz, eD⟩
      obtain ⟨p, r, rfl, er, hp⟩ := pairs_get pa hy
      obtain ⟨dx, t, ys, hx, _⟩ := id tab
      refine ⟨p, _, rfl, SqT.of (sz _ _ hp), rfl, .int r.1, [.int r.2], rfl, .int r.2, [], rfl, rfl, rfl, iteT (B := True) ?_⟩
      refine ⟨.ref x, rfl, x, dx, _, rfl, sz _ _ hx, rfl, .int r.1, rfl, .int r.2, rfl, x, es, r.1, r.2, rfl, tab.same sz, le, fun H2 s2 => ?_⟩
      refine ⟨_, s2 _ _ eD, ?_, same_again nD (sz.trans s2), ?_⟩
      · rw [List.length_map, List.length_map, List.length_take]; exact Nat.lt_of_le_of_lt (show _ ≤ 3000 by omega) (by decide)
      · rw [upd_same, List.take_add_one, er, List.map_append, List.map_append]; rfl
    rintro H1 ⟨s1, eD⟩
    rw [ll, List.take_length] at eD
    exact ⟨D, _, rfl, SqL.of eD, hq _ s1⟩
end
end XT

/-! a def of a class whose first statement is super().__init__(a text): an own exception's __init__ -/
namespace XS
open PySem PySem.Spec PyProof.Rows L2 NdefX
structure FunS (K : PySem.W.Frag) (P : Program) (x qual : Str) (st : Stmt) (C : Addr) (f : Addr) (fd : FuncData) : Prop where
  ex : ∃ (oc : Value) (od : Option Addr) (dV kV doc pm : Value) (an : Option Addr) (cda : Addr) (ct : Value) (osl : Array (Option Value)) (cc : Addr) (cl : Value) (cld : Option Addr) (csl : Array (Option Value)) (ccl : Value) (cdd : Option Addr) (vs : Array Value) (ccs : Array (Option Value)) (file : Str) (tf : Tok),
    fd = PySem.W.fnX x qual (defArgs st) (defBody st) (defScope st) [("__class__", cc)] dV kV doc pm an (.ref cda) ct ∧ K.lookup f = some ⟨oc, od, .func fd, osl⟩ ∧ PySem.W.codeIn K (.ref cda) qual = true ∧
    K.lookup cc = some ⟨cl, cld, .cell (some (.ref C)), csl⟩ ∧ K.lookup cda = some ⟨ccl, cdd, .fields vs, ccs⟩ ∧ vs[2]? = some (.str file tf) ∧ ((P.main.file : Str) == file) = true
/-- what the module says of super -/
structure SupK (K : PySem.W.Frag) (P : Program) (mg : Str → Option Value) : Prop where
  top : (P.main.scope.names.lookup ("super" : Str)).isSome = false
  no : mg "super" = none
  any : PySem.W.nsIn K cStatics "thirdparty.any" = some none
/-- the class over ValueError -/
structure SupC (K : PySem.W.Frag) (C : Addr) : Prop where
  oex : OexC K C
  mro : PySem.W.mroIn K C (.ref C) = some true
  sup : PySem.W.ks_superIn K C C "__init__" = some (some (.builtin "ValueError.__init__"))
  sub : PySem.W.subIn K (.ref C) (.type "ValueError") = some true
theorem FnInit_len {p : Str} : ∀ vs : List V, (∃ a v, vs = [V.ref a, v]) → vs.length = (["self", p] : List Str).length := fun vs h => by
  obtain ⟨a, v, rfl⟩ := h
  rfl
section
variable {X : Cx} {pins : List (Addr × Obj)} {σ : L2.St} {H : Hp} {s : Shared} {a C u : Addr}
/-- the bound ValueError.__init__ called: nothing of it is told -/
theorem call_mw {us : List Value} {Q : Value → Shared → Prop} (T : OexC X.K C) (I : Inv X pins σ H s) (e : H a = some (exo a C none)) (hu : s.heap.get? u = some (PySem.W.kxs_mw "ValueError.__init__" a)) (hl : us.length ≤ sizeLine) (h : ∀ s', Inv X pins σ H s' → Q .none s') {A : Around} {E : Value → Shared → Prop} :
    wpAny (model X.prog X.w) A (call (.ref u) us) Q E s := by
  obtain ⟨nm, q, N, bs, bm, sn, sub, ab, col, dd, k0, k1, k2, k3, k5, hC, hbm⟩ := T.cls
  obtain ⟨t1, ho⟩ := exo_at I.hok e
  have hCs := I.kIn _ _ hC
  obtain ⟨hp, g, d, t, os⟩ := s
  refine wpAny_call (codeAny_of_tree ?_)
  show wpAny _ A.in1 (callAny (.ref u) ⟨us, []⟩) _ _ _
  simp only [callAny]
  refine wpAny_bind (wpAny_load hu ?_)
  simp only [PySem.W.kxs_mw, show (Value.type "method-wrapper" == Value.type "method" || Value.type "method-wrapper" == Value.type "builtin_function_or_method" || Value.type "method-wrapper" == Value.type "method-wrapper") = true by decide, if_true]
  refine PySem.W.KFB.if_so (by decide) ?_
  show wpAny _ _ (checkBoundCall "ValueError.__init__" ⟨.ref a :: us, []⟩ >>= fun _ => again (.builtin "ValueError.__init__" ⟨.ref a :: us, []⟩)) _ _ _
  have FB := PySem.F.excBase_ValueError
  refine wpAny_bind (PySem.W.check_bound_init FB.toExcCallFacts hCs ho rfl ?_)
  refine wpAny_pure ⟨plainId_quiet FB.init.plain _, codeAny_builtin FB.initEntry ?_⟩
  rw [Around.under_plainId FB.init.plain _]
  refine PySem.W.exc_init_tree (cls := .ref C) (t0 := t1) (dv := none) (c2 := .none) (c3 := .none) (b4 := .bool false) ho hl fun h' k hx ht => ?_
  have J := I.write (t' := t) (x := a) (e := a) (o := exo a C none) (by rw [e]; exact True.intro) (.inl rfl) k ⟨_, hx⟩ (exo_ok hx)
  have eu : upd H a (exo a C none) = H := by
    funext b
    by_cases hb : b = a
    · rw [hb, upd_same, e]
    · rw [upd_ne hb]
  rw [eu] at J
  exact h _ J
end
theorem lookup_one {k y : Str} {c d : Addr} (e : List.lookup y [(k, c)] = some d) : y = k ∧ d = c := by
  rw [List.lookup_cons] at e
  split at e
  · rename_i h
    exact ⟨by simpa using h, (Option.some.inj e).symm⟩
  · cases e
section
variable {CX : CXT} {P : Program} {w : World} {K : PySem.W.Frag} {mg : Str → Option Value} {base : Heap} {N ps : List Str} {k : Nat} {sp : Sp} {x qual a0 : Str} {st : Stmt} {C f : Addr} {fd : FuncData} {p0 p1 p2 p3 p4 p5 : Pos} {z : Str} {j : Nat} {rest : List Stmt} {pl : Env → Sem Bool}
theorem fn_sup (F : FunS K P x qual st C f fd) (SK : SupK K P mg) (SC : SupC K C)
    (hb : defBody st = .Expr (.Call (.Attribute (.Call (.Name "super" p0) [] [] p1) "__init__" p2) [.Constant (.str z) j p5] [] p3) p4 :: rest)
    (S : NScope N ps ["__class__"] (defScope st)) (hsu : (defScope st).names.lookup ("super" : Str) = some .globalImplicit) (har : ((defArgs st).posonlyargs ++ (defArgs st).args).head?.map (·.arg) = some a0) (hps : ps[0]? = some a0) (hN : N[0]? = some a0) (hda : (a0 == ("__debug__" : Str)) = false)
    (hc : ∀ env, eval (.Call (.Attribute (.Call (.Name "super" p0) [] [] p1) "__init__" p2) [.Constant (.str z) j p5] [] p3) env = (do
      let ov ← attributeBase (.Call (.Name "super" p0) [] [] p1) "__init__" env (eval (.Call (.Name "super" p0) [] [] p1) env)
      standAt p2.atName
      let (f, first) ← holding [ov] (getMethod ov "__init__" (pl env))
      callWith p3 f first (backTo p3 (starEach [.Constant (.str z) j p5] env)) []))
    (len : ∀ vs H Q E, sp vs H Q E → vs.length = ps.length)
    (hbody : ∀ (F : NF) (A : Around) (outer : List Env) (s : Shared) (H : Hp) (vs : List V) (Q : VK) (E : XK), F.scope = defScope st → Room k (A.deeper (envF F f s.heap.objs.size)) → sp vs H Q E →
      ∃ a, vs[0]? = some (.ref a) ∧ H a = some (exo a C none) ∧ ∃ t, PSs (ncx CX P w K mg base N F f A outer s H E) rest t ∧ t { nx := fun _ H' => Q .non H', rt := Q } (startF N vs [none]) H) :
    FnOk P w K mg base CX (k + 1) f fd ps sp := by
  obtain ⟨oc, od, dV, kV, doc, pm, an, cda, ct, osl, cc, cl, cld, csl, ccl, cdd, cvs, ccs, file, tf, rfl, lk, hcd, lcc, lcd, hv2, hfile⟩ := F.ex
  obtain ⟨NFF, hNF⟩ : ∃ NFF : NF, NFF = ⟨x, qual, defArgs st, defBody st, defScope st, [("__class__", cc)], cda⟩ := ⟨_, rfl⟩
  refine ⟨len, fun A outer s H args us vs Q E hr e0 hbd r hsp => ?_⟩
  have hl := len _ _ _ _ hsp
  have KX : K.In s.heap := e0.mod.kin.keeps fun b o e => (e0.bs b o e).1
  have lim : s.heap.NoLimit := e0.mod.nolimit.keeps fun b o e => (e0.bs b o e).1
  have CA : CellsAt NFF.cl ["__class__"] [none] s.heap H := by
    subst hNF
    refine ⟨rfl, fun y c e => ?_, fun y1 y2 c e1 e2 => ?_, fun i y e => ?_⟩
    · obtain ⟨_, rfl⟩ := lookup_one e
      exact ⟨(e0.bs _ _ (e0.mod.kin _ _ lcc)).2, _, ⟨_, KX _ _ lcc, rfl⟩⟩
    · rw [(lookup_one e1).1, (lookup_one e2).1]
    · match i, e with
      | 0, e =>
        cases e
        exact ⟨cc, by simp, fun v e => by cases e⟩
  refine codeAny_call_function hr.depth (KX _ _ lk) rfl S.co S.gen rfl (PySem.W.codeRec_of KX hcd) (hbd _ _ _ _ ?_)
  refine wpAny_newFunctionEnv S.nocell (fun ⟨n, _⟩ hy => S.par n (List.of_mem_zip hy).1) (fun h₁ hns hsb => ⟨lim.fresh _ hsb, ?_⟩) S.kind
  have kp : ∀ b o, s.heap.get? b = some o → h₁.get? b = some o := fun b o e => hsb.extBut b o (Nat.ne_of_lt (Heap.lt_size e)) (Heap.get?_push_of_some _ e)
  obtain ⟨a, hv0, ea, t, ht, hq⟩ := hbody NFF A outer s H vs Q E (by rw [hNF]) (hr.deeper _) hsp
  have I : Inv (ncx CX P w K mg base N NFF f A outer s H E) [] (startF N vs [none]) H { s with heap := h₁, toks := s.toks + (ps.zip us).length } := inv_startN (by rw [hNF]; exact S) hr.hd e0 hl r CA hns kp
  show codeAny _ _ (.func (defBody st) (PySem.W.envX qual (defScope st) s.heap.objs.size f (.ref cda) [("__class__", cc)])) _ _
  refine ks_codeAny_funcAt ?_
  have eqA : A.deeper (PySem.W.envX qual (defScope st) s.heap.objs.size f (.ref cda) [("__class__", cc)]) = (ncx CX P w K mg base N NFF f A outer s H E).A := by rw [hNF]; rfl
  have eqE : PySem.W.envX qual (defScope st) s.heap.objs.size f (.ref cda) [("__class__", cc)] = (ncx CX P w K mg base N NFF f A outer s H E).env := by rw [hNF]; rfl
  rw [hb]
  have hi : interactive (PySem.W.envX qual (defScope st) s.heap.objs.size f (.ref cda) [("__class__", cc)]) = false := by simp [interactive, S.kind]
  refine ks_wpAt_execs_cons (ks_wpAt_Expr_any (ks_wpAt_MethodCall ?_ (hc _)) hi rfl)
  have kO : (PySem.W.envX qual (defScope st) s.heap.objs.size f (.ref cda) [("__class__", cc)]).scope.kind = .function := S.kind
  have IK := I.kIn
  have hcl : (defScope st).names.lookup ("__class__" : Str) = some .free := S.frk _ List.mem_cons_self
  obtain ⟨ar, har1, har2⟩ : ∃ ar : Arg, ((defArgs st).posonlyargs ++ (defArgs st).args).head? = some ar ∧ ar.arg = a0 := by
    cases h : ((defArgs st).posonlyargs ++ (defArgs st).args).head? with
    | none => rw [h] at har; cases har
    | some ar => rw [h] at har; exact ⟨ar, rfl, Option.some.inj har⟩
  refine ks_wpAt_super_base (env := PySem.W.envX qual (defScope st) s.heap.objs.size f (.ref cda) [("__class__", cc)]) hsu hcl (by decide) rfl (IK _ _ lk) rfl har1 rfl (IK _ _ lcd) rfl hv2 hfile SK.top ?_
  obtain ⟨mb, hmb1, hmb2⟩ := I.mod.blt
  refine PySem.W.ks_loadName_global kO hsu (Calls.loadGlobal_builtin (env := PySem.W.envX qual (defScope st) s.heap.objs.size f (.ref cda) [("__class__", cc)]) (I.mod.glob.keeps I.bk) SK.no (hmb1.keeps I.bk) ((hmb2 "super" (by decide)).trans (show bootBuiltins "super" = some (.type "super") by decide +kernel)) ⟨rfl, ?_⟩)
  refine wpAny_loadName_free kO hcl (show List.lookup ("__class__" : Str) [(("__class__" : Str), cc)] = some cc by simp) ⟨_, IK _ _ lcc, rfl⟩ ?_
  obtain ⟨m, hns2, hl2⟩ := I.loc
  have hpm : a0 ∈ ps := List.mem_of_getElem? hps
  have hs0 : (startF N vs [none])[0]? = some (some (.ref a)) := by
    unfold startF
    have : 0 < vs.length := (List.getElem?_eq_some_iff.mp hv0).1
    rw [List.getElem?_append_left (by rw [List.length_map]; exact this), List.getElem?_map, hv0]
    rfl
  obtain ⟨u0, ru0, lk0⟩ := hl2 0 a0 (.ref a) hN hs0 (.inl (by rw [hNF]; exact S.par a0 hpm))
  have ru0 : u0 = Value.ref a := ru0
  subst ru0
  have kl : (PySem.W.envX qual (defScope st) s.heap.objs.size f (.ref cda) [("__class__", cc)]).kindOf a0 = some .local := S.par a0 hpm
  have hm0 : m a0 = some (.ref a) := by
    rcases lk0 with ⟨_, h⟩ | ⟨h, _⟩
    · exact h
    · rw [← eqE, kl] at h
      rcases h with h | h <;> cases h
  rw [har2]
  refine wpAny_loadName_local kO kl (by rw [hNF] at hns2; exact hns2) hm0 ?_
  obtain ⟨nm, q, NN, bs, bm, sn, sub, ab, col, dd, k0, k1, k2, k3, k5, hC, hbm⟩ := SC.oex.cls
  have hCl : PySem.W.clsIn K C = some { name := nm, bases := bs, mro := .ref C :: bm, ns := NN, qualname := q, hasDict := true, slotNames := sn, subclasses := sub, abstract := ab, collection := col, hasDel := false } := by unfold PySem.W.clsIn; rw [hC] <;> rfl
  obtain ⟨t1, ho⟩ := exo_at I.hok ea
  refine ks_wpAny_isType_cls (IK _ _ hC) rfl ⟨rfl, ?_⟩
  refine ks_wpAny_call_super (IK _ _ hC) rfl ho rfl (fun c z => nomatch z) (PySem.W.looks_mroIn IK SC.mro) (fun h2 e2 k2 => ?_)
  have I2 := I.kept (t' := s.toks + (ps.zip us).length) k2
  have IK2 : K.In h2 := I2.kIn
  have IA : PySem.W.InstAt h2 a _ C none := ⟨k2 _ _ ho, rfl, rfl, trivial⟩
  have hm := SC.sup
  unfold PySem.W.ks_superIn at hm
  rw [hCl] at hm
  refine PySem.W.kxs_getMethod PySem.W.kxs_ValueError e2 (PySem.W.looks_opaque IK2 SK.any) (l₀ := .ref C :: bm) (fun A Q E s k q => wpAny_bind ((PySem.W.looks_clsIn IK2 hCl) A _ E s k (wpAny_pure q))) rfl IK2 hm (IA.type.andThen (PySem.W.looks_subIn IK2 SC.sub)) (PySem.W.ks_ne IK2 IA hCl) (by decide) ?_
  have I3 := ClX.pin_new (t' := s.toks + (ps.zip us).length + 1) (o := PySem.W.kxs_mw "ValueError.__init__" a) I2 (fun _ _ z => Heap.get?_push_of_some _ z) (Nat.le_refl _) (Heap.get?_push_size h2 rfl) (fun v z => nomatch z)
  subst hNF
  refine PySem.W.kxs_callWith (i := "ValueError.__init__") (x := a) rfl (PySem.Calls.evalArgs_plain ?_)
  refine thn ((pa_cons pe_str pa_nil : PA (ncx CX P w K mg base N ⟨x, qual, defArgs st, defBody st, defScope st, [("__class__", cc)], cda⟩ f A outer s H E) [.Constant (.str z) j p5] (tCons (tC (.str z)) tNil)).run p3 _ _ _ H (fun vs H' => H' = H ∧ vs.length ≤ 1) I3 ⟨rfl, Nat.le_refl _⟩) fun us2 s2 ⟨vs2, H2, I4, r4, eH, l4⟩ => ?_
  subst eH
  have hu := ClX.pin_at I4
  refine ⟨hu, ?_⟩
  refine call_mw SC.oex (ClX.unpin I4) ea hu (by show us2.length ≤ sizeLine; rw [← Paired.length r4, sizeLine_eq]; omega) fun s5 I5 => ?_
  refine wpAt_of_wpAny (wpAny_mono (ht.run [] _ _ H2 _ I5 hq) (fun fl s' hs => ?_) fun e s' hs => hs)
  have fin : ∀ {σ' : L2.St} {H' : Hp} {v : V} {u : Value}, Inv (ncx CX P w K mg base N ⟨x, qual, defArgs st, defBody st, defScope st, [("__class__", cc)], cda⟩ f A outer s H2 E) [] σ' H' s' → L2.RelV v u → Q v H' → CE outer P w H2 s Q u s' :=
    fun {σ' H' v u} J rv q => ⟨v, H', J.os, J.bare, J.base, J.hok, rv, q⟩
  cases fl with
  | ret u =>
    obtain ⟨v, σ', H', J, rv, q⟩ := hs
    exact fin J rv q
  | next =>
    obtain ⟨σ', H', J, q⟩ := hs
    exact fin (v := V.non) (u := Value.none) J rfl q
  | brk =>
    obtain ⟨_, _, _, q⟩ := hs
    exact False.elim q
  | cont =>
    obtain ⟨_, _, _, q⟩ := hs
    exact False.elim q
end
end XS

/-! an own error's __init__: super().__init__(a text), then self.f = p -/
namespace XS
open PySem PySem.Spec PyProof.Rows L2 NdefX
/-- what it leaves: the error's dict has the field -/
def spInit (C : Addr) (f : Str) : Sp := fun vs H Q _ => ∃ (a : Addr) (v : V), vs = [.ref a, v] ∧ H a = some (exo a C none) ∧ ∀ dx, H dx = none → dx ≠ a → Q .non (upd (upd H dx (exd dx [(f, v)])) a (exo a C (some dx)))
theorem spInit_len {C : Addr} {f p : Str} : ∀ vs H Q E, spInit C f vs H Q E → vs.length = (["self", p] : List Str).length := fun vs H Q E h => by
  obtain ⟨a, v, rfl, _⟩ := h
  rfl
section
variable {CX : CXT} {P : Program} {w : World} {K : PySem.W.Frag} {mg : Str → Option Value} {base : Heap} {k : Nat} {x qual p fld : Str} {st : Stmt} {C f : Addr} {fd : FuncData} {p0 p1 p2 p3 p4 p5 q1 q2 q3 q4 : Pos} {z : Str} {j : Nat} {pl : Env → Sem Bool}
theorem fn_init (F : FunS K P x qual st C f fd) (SK : SupK K P mg) (SC : SupC K C)
    (hb : defBody st = .Expr (.Call (.Attribute (.Call (.Name "super" p0) [] [] p1) "__init__" p2) [.Constant (.str z) j p5] [] p3) p4 :: [.Assign [.Attribute (.Name "self" q1) fld q2] (.Name p q3) q4])
    (S : NScope ["self", p, "__class__"] ["self", p] ["__class__"] (defScope st)) (hsu : (defScope st).names.lookup ("super" : Str) = some .globalImplicit) (har : ((defArgs st).posonlyargs ++ (defArgs st).args).head?.map (·.arg) = some "self")
    (hdp : (p == ("__debug__" : Str)) = false) (hcp : (p == ("__classdict__" : Str)) = false)
    (hls : (defScope st).names.lookup ("self" : Str) = some .local) (hlp : (defScope st).names.lookup p = some .local)
    (hno : PySem.W.findIn K (.ref C) fld = some none)
    (hc : ∀ env, eval (.Call (.Attribute (.Call (.Name "super" p0) [] [] p1) "__init__" p2) [.Constant (.str z) j p5] [] p3) env = (do
      let ov ← attributeBase (.Call (.Name "super" p0) [] [] p1) "__init__" env (eval (.Call (.Name "super" p0) [] [] p1) env)
      standAt p2.atName
      let (f, first) ← holding [ov] (getMethod ov "__init__" (pl env))
      callWith p3 f first (backTo p3 (starEach [.Constant (.str z) j p5] env)) []))
    (hsw : ∀ env, swapsWith (.Name p q3) (some (.Attribute (.Name "self" q1) fld q2)) q4.line env = pure false) :
    FnOk P w K mg base CX (k + 1) f fd ["self", p] (spInit C fld) := by
  refine fn_sup (sp := spInit C fld) F SK SC hb S hsu har rfl rfl (by decide) hc spInit_len fun NFF A outer s H vs Q E hF hr h => ?_
  obtain ⟨a, v, rfl, ea, hq⟩ := h
  refine ⟨a, rfl, ea, _, pss_one (ps_ost (pe_var (i := 0) (x := "self") rfl (.inl ?_) (by decide) (by decide)) (pe_var (i := 1) (x := p) rfl (.inl ?_) hdp hcp) (hsw _)), ?_⟩
  · show NFF.scope.names.lookup ("self" : Str) = some .local
    rw [hF]; exact hls
  · show NFF.scope.names.lookup p = some .local
    rw [hF]; exact hlp
  · exact ⟨v, rfl, .ref a, rfl, a, C, rfl, SC.oex, hno, .inl ⟨ea, fun dx n ne => hq dx n ne⟩⟩
end
end XS

/-! a caught error that is kept behind its suite: caught = error; its fields; isinstance of it -/
namespace PySem.W
open PySem PySem.Spec PySem.Calls PyProof.Rows
section
variable {prog : Program} {w : World} {A : Around} {E : Value → Shared → Prop} {s : Shared} {K : Frag} {x D : Addr} {ox : Obj} {od : Option Obj}
theorem xk_findObj {C : Addr} {name : Str} {a g : Value} (hc : (clsIn K C).isSome = true) (ha : findIn K (.ref C) name = some (some a)) (hg : specialIn K a "__get__" = some (some g)) (ht : takesIn K a = some true) : findObj K C od name = some (.bind g a) := by
  obtain ⟨cd, hc⟩ := Option.isSome_iff_exists.mp hc
  unfold findObj
  rw [hc, Option.bind_some, ha, Option.bind_some]
  simp [hg, ht]
theorem xk_class {Q : Option Value → Shared → Prop} (hga : findIn K (.ref D) "__getattribute__" = some (some (.builtin "BaseException.__getattribute__"))) (hgt : findIn K (.ref D) "__getattr__" = some none) (hsub : subIn K (.ref D) (.type "BaseException") = some true)
    (hdct : hasDictIn K D = true) (ha : findIn K (.ref D) "__class__" = some (some (.builtin "object.__class__")))
    (hn : specialIn K (.builtin "object.__class__") "__get__" = some (some (.builtin "getset_descriptor.__get__"))) (htk : takesIn K (.builtin "object.__class__") = some true) (hm : mroIn K D (.type "object") = some true)
    (X : K.In s.heap) (I : InstAt s.heap x ox D od) (h : Q (some (.ref D)) { s with toks := s.toks + 1 }) : wpAny (model prog w) A (getAttr? (.ref x) "__class__") Q E s := by
  have hf : findObj K D od "__class__" = some (.bind (.builtin "getset_descriptor.__get__") (.builtin "object.__class__")) := xk_findObj (by obtain ⟨cd, hc, _⟩ := any_some hdct; rw [hc]; rfl) ha hn htk
  obtain ⟨hp, g, d, t, os⟩ := s
  have L0 := I.type (M := model prog w)
  have L1 := looks_findIn (M := model prog w) X hga
  have L2 := looks_findIn (M := model prog w) X hgt
  have L3 := looks_find (M := model prog w) X I hf
  have sub : Looks (model prog w) hp (isInstance (.ref x) (.type "BaseException")) true := L0.andThen (looks_subIn X hsub)
  have hx0 : (false && onTheHeap (Value.builtin "BaseException.__getattribute__")) = false := rfl
  have hx2 : (Value.builtin "BaseException.__getattribute__" == Value.builtin "object.__getattribute__") = false := by decide +kernel
  have hx1 : (onTheHeap (Value.ref D) && Value.builtin "BaseException.__getattribute__" == Value.builtin "object.__getattribute__") = false := by rw [hx2]; rfl
  unfold getAttr? getAttrBy? getAttrBy
  refine wpAny_bind (wpAny_mkText (wpAny_bind (wpAny_attempt (wpAny_holding (wpAny_bind (L0.at (wpAny_bind (L1.at ?_))))))))
  show wpAny _ _ (if (onTheHeap (Value.ref D) && Value.builtin "BaseException.__getattribute__" == Value.builtin "object.__getattribute__") = true then _ else _) _ _ _
  rw [hx1, if_neg Bool.false_ne_true]
  unfold getAttrByItsOwn hookBefore
  refine wpAny_bind ?_
  rw [if_pos (show onTheHeap (Value.ref D) = true from rfl)]
  refine L2.at ?_
  refine wpAny_bind (wpAny_attempt (wpAny_holding ?_))
  unfold callGetattribute
  rw [hx0, if_neg Bool.false_ne_true]
  unfold boundAndCalled
  rw [PySem.F.excAttr_ValueError.ga.bind (.ref x)]
  refine wpAny_bind (wpAny_pure ?_)
  show wpAny _ _ (call (.builtin "BaseException.__getattribute__") [.ref x, .str "__class__" t]) _ _ _
  refine wpAny_call (codeAny_call_builtin PySem.F.excAttr_ValueError.ga.plain PySem.F.entry_bexc_ga ?_)
  refine @check_slot (model prog w) _ _ ⟨hp, g, d, t + 1, os⟩ "BaseException.__getattribute__" "BaseException" "__getattribute__" (.ref x) [.str "__class__" t] [] _ (by decide +kernel) (by decide +kernel) sub (PySem.F.args_bexc_ga (.ref x) (.str "__class__" t)) ?_
  unfold Builtin.«object.__getattribute__»
  refine wpAny_bind (wpAny_of_eq (a := ((Value.ref x : Value), [Value.str "__class__" t])) (by first | rfl | (simp only [slotArgs]; rfl)) ?_)
  refine wpAny_bind (wpAny_pure (wpAny_bind (L0.at (wpAny_bind (L3.at ?_)))))
  show wpAny _ _ (holding [Value.builtin "object.__class__"] (call (.builtin "getset_descriptor.__get__") [.builtin "object.__class__", .ref x, .ref D]) >>= ret) _ _ _
  refine wpAny_bind (wpAny_holding (wpAny_call (class_get (s := ⟨hp, g, d, t + 1, os⟩) (ox := ox) (od := od) X I hm ?_)))
  refine wpAny_pure ?_
  show wpAny _ _ (handedOut (.ref D)) _ _ _
  rw [handedOut_of (v := .ref D) rfl]
  first
    | exact wpAny_pure (wpAny_pure h)
    | exact wpAny_pure h
    | exact wpAny_pure (wpAny_bind (wpAny_pure (wpAny_pure h)))
theorem xk_kitx (hga : findIn K (.ref D) "__getattribute__" = some (some (.builtin "BaseException.__getattribute__"))) (hgt : findIn K (.ref D) "__getattr__" = some none) (hsub : subIn K (.ref D) (.type "BaseException") = some true) (hdct : hasDictIn K D = true) (ha : findIn K (.ref D) "__class__" = some (some (.builtin "object.__class__")))
    (hn : specialIn K (.builtin "object.__class__") "__get__" = some (some (.builtin "getset_descriptor.__get__"))) (htk : takesIn K (.builtin "object.__class__") = some true) (hm : mroIn K D (.type "object") = some true) :
    KitX K (.ref x) (.ref D) (fun h => InstAt h x ox D od) where
  ty := fun _ _ _ I => I.type
  it := fun _ _ X _ => by
    obtain ⟨cdD, hcD, _⟩ := any_some hdct
    unfold clsIn at hcD
    split at hcD
    · rename_i c' d' cd' sl' ho
      intro A' Q' E' s' k q
      unfold isType loadHead
      exact wpAny_bind (wpAny_loadPart (k _ _ (X _ _ ho)) (wpAny_pure q))
    · cases hcD
  ne := fun h tp dd its n sl X htp => by
    obtain ⟨cdD, hcD, _⟩ := any_some hdct
    refine Bool.eq_false_iff.mpr fun q => ?_
    have e : D = tp := Value.ref.inj (beq_iff_eq.mp q)
    subst e
    unfold clsIn at hcD
    split at hcD
    · rename_i c' d' cd' sl' ho
      have z := (X _ _ ho).symm.trans htp
      cases z
    · cases hcD
  ca := fun X I k => xk_class hga hgt hsub hdct ha hn htk hm X I k
end
end PySem.W
namespace XS
open PySem PySem.Spec PyProof.Rows L2
/-- at a: an error of the class cls, with the dict d, that is kept -/
def exk (a : Addr) (cls : Value) (d : Option Addr) : HO := .ext fun h => ∃ oe vs, h.get? a = some oe ∧ Zc cls d oe ∧ oe.data = .fields vs
theorem exk_own {e x : Addr} {c : Value} {d : Option Addr} : exk e c d ≠ .own x := fun z => by
  have z' : HO.ext _ = HO.own x := z
  cases z'
theorem exk_tup {e : Addr} {c : Value} {d : Option Addr} {xs : List V} : exk e c d ≠ .tup xs := fun z => by
  have z' : HO.ext _ = HO.tup xs := z
  cases z'
theorem exk_lst {e : Addr} {c : Value} {d : Option Addr} {xs : List V} : exk e c d ≠ .lst xs := fun z => by
  have z' : HO.ext _ = HO.lst xs := z
  cases z'
theorem exk_ok {P : Program} {w : World} {H : Hp} {h : Heap} {e : Addr} {cls : Value} {d : Option Addr} {oe : Obj} {vs : Array Value} (he : h.get? e = some oe) (hz : Zc cls d oe) (hd : oe.data = .fields vs) : ObjOk P w H h e (exk e cls d) :=
  ⟨⟨oe, vs, he, hz, hd⟩, ⟨_, he⟩, fun h1 h2 z k => by
    obtain ⟨o, v, q, r⟩ := z
    exact ⟨o, v, k _ q, r⟩⟩
theorem exk_at {P : Program} {w : World} {H : Hp} {h : Heap} {e : Addr} {cls : Value} {d : Option Addr} (hok : HOk P w H h) (he : H e = some (exk e cls d)) : ∃ oe vs, h.get? e = some oe ∧ Zc cls d oe ∧ oe.data = .fields vs := by
  have x : ObjOk P w H h e (.ext fun h => ∃ oe vs, h.get? e = some oe ∧ Zc cls d oe ∧ oe.data = .fields vs) := hok e _ he
  exact x.1
section
variable {X : Cx} {pins : List (Addr × Obj)} {σ : L2.St} {H : Hp} {s : Shared} {a : Addr} {cls : Value} {d : Option Addr} {oe : Obj} {vs : Array Value}
theorem keep_ok (I : Inv X pins σ H s) (h : s.heap.get? a = some oe) (hz : Zc cls d oe) (hd : oe.data = .fields vs) (na : H a = none) (new : X.s_0.heap.get? a = none) (nL : a ≠ X.env.locals) (hp : ∀ p ∈ X.pn ++ pins, p.1 ≠ a) : Inv X pins σ (upd H a (exk a cls d)) s := by
  have ne : ∀ {b : Addr} {o : HO}, H b = some o → b ≠ a := fun {b o} z => ne_of_none z na
  refine ⟨I.ok, I.os, I.bare, ⟨I.base.keep, I.base.slot, fun b o e n hx => ?_, I.base.there, fun b xs z => ?_, fun b o v z => ?_, fun b ps z => ?_⟩, I.loc, I.cell, ?_, fun x c e => ?_, fun p hpm => ?_, fun b o e => ?_, I.len⟩
  · rw [upd_ne (by rintro rfl; rw [new] at e; cases e)]
    exact I.base.free b o e n hx
  · have z' := I.base.tups b xs z
    rw [upd_ne (ne z')]; exact z'
  · have z' := I.base.frzs b o v z
    rw [upd_ne (ne z')]; exact z'
  · obtain ⟨qs, z'⟩ := I.base.tbls b ps z
    exact ⟨qs, by rw [upd_ne (ne z')]; exact z'⟩
  · rw [upd_ne (Ne.symm nL)]; exact I.free
  · have : c ≠ a := by
      rintro rfl
      obtain ⟨v, o, ho, hdd⟩ := I.cell x c e
      rw [h] at ho; cases ho
      rw [hd] at hdd; cases hdd
    rw [upd_ne this]; exact I.freeC x c e
  · obtain ⟨p1, p2, p3, p4, p5⟩ := I.pin p hpm
    exact ⟨p1, by rw [upd_ne (hp p hpm)]; exact p2, p3, p4, p5⟩
  · by_cases hb : b = a
    · subst hb
      rw [upd_same] at e
      cases e
      exact exk_ok h hz hd
    · rw [upd_ne hb] at e
      exact (I.hok b o e).stay (fun c v hc z => z) (fun c hc => by rw [upd_ne (ne hc)]; exact hc) (fun c xs hc => by rw [upd_ne (ne hc)]; exact hc)
end
/-- what the clause 'except x as n' wishes, where the error may be kept behind it -/
def wAsK (K : PySem.W.Frag) (c : Value) (i : Nat) (ts : Addr → Value → Option Addr → TS) (Wout : WX) (D : Ends) : WX := fun cls d σ H =>
  ∃ b, PySem.W.exmOne K cls c = some b ∧ (b = true → ∀ a, H a = none → ts a cls d { nx := fun σ' H' => D.nx (σ'.set i none) (upd H' a (exk a cls d)), rt := D.rt, bk := fun σ' H' => D.bk (σ'.set i none) H', ct := fun σ' H' => D.ct (σ'.set i none) H' } (σ.set i (some (.ref a))) H) ∧
    (b = false → Wout cls d σ H)
section
variable {X : Cx} {x n : Str} {c : Value} {i : Nat} {body suite : List Stmt} {b₀ : Stmt} {np pos pos' : Pos} {tb : WX → TS} {ts : Addr → Value → Option Addr → TS} {Wout : WX}
theorem ps_try_keep (hs : X.stack = X.env :: X.outer) (hex : X.ex = []) (hf : X.env.frame = some X.env.locals) (hN : X.N.Nodup) (hi : X.N[i]? = some n) (hln : X.env.kindOf n = some .local) (hc : Names X x c) (tk : Takes X Wout)
    (hb : ∀ (W : WX) (pn : List (Addr × Obj)) (xe : Value → Shared → Prop), Takes (X.tr pn xe) W → PassesOwn (model X.prog X.w) X.A X.env xe → PSs (X.tr pn xe) body (tb W))
    (hsu : ∀ (a : Addr) (oe : Obj) (cls : Value) (d : Option Addr) (pn : List (Addr × Obj)), Zc cls d oe → (∃ vs, oe.data = .fields vs) → PSs (X.suite a ((a, oe) :: pn)) (b₀ :: suite) (ts a cls d)) :
    PS X (.Try body [.ExceptHandler (some (.Name x np)) (some n) (b₀ :: suite) pos'] [] [] pos) (fun D σ H => tb (wAsK X.K c i ts Wout D) D σ H) := by
  refine ⟨fun pins s σ H D I h => ?_⟩
  have ok := I.ok
  have hfr : X.A.frames = some (X.env :: X.outer) := by rw [ok.frames, hs]
  have hloc : Loc X.env.scope n := .inl hln
  refine wpAny_Try_except ?_
  refine wpAny_mono ((hb (wAsK X.K c i ts Wout D) (X.pn ++ pins) (fun e s₁ => wpAny (model X.prog X.w) X.A (noteFrame e X.env) (fun _ s₂ => wpAny (model X.prog X.w) X.A (setFlight e none) (fun _ s₃ =>
    wpAny (model X.prog X.w) X.A (handleBy e X.env [.ExceptHandler (some (.Name x np)) (some n) (b₀ :: suite) pos']) (SP X pins D) X.xe s₃) X.xe s₂) X.xe s₁) (fun u s' xx => ?_) PassesOwn.looking).run [] s σ H D (I.toTry _) h) (fun f s1 hsp => ?_) (fun e s1 he => he)
  · -- the catch
    obtain ⟨a, B, sI, pins', σ', H', cls, d, rfl, J', nb, up, sky, na, os, ag, b, hb1, hyes, hno⟩ := xx
    have J : Inv X pins σ' H' sI := J'.ofTry ok
    have sky' : Sky B (X.env :: X.outer) a (Zc cls d) X.env.locals s'.heap := by rw [← hs]; exact sky
    show wpAny (model X.prog X.w) X.A (noteFrame (.ref a) X.env) _ _ _
    refine Sky.land Zc.steady hfr hf sky' fun h3 fl3 up3 => ?_
    have J3 : Inv X pins σ' H' { s' with heap := h3 } := J.landed nb fl3.1 (up.trans up3) os ag
    obtain ⟨oe3, vs3, he3, hz3, hd3⟩ := fl3.there
    have notFr : ∀ {h : Heap} {o : Obj} {vs : Array Value}, h.FunFrames B (X.env :: X.outer) → h.get? a = some o → o.data = .fields vs → a ∉ frs (X.env :: X.outer) := fun {h o vs} ff e dd hm => by
      obtain ⟨_, o', e', hnf⟩ := ff.mem hm
      rw [e] at e'; cases e'
      exact hnf _ dd
    have nfr := notFr fl3.2.2.1 he3 hd3
    have nL : a ≠ X.env.locals := fun z => nfr (List.mem_filterMap.mpr ⟨X.env, List.mem_cons_self, by rw [hf, z]⟩)
    have nF : a ∉ X.fs := fun hm => by
      obtain ⟨e, he, q⟩ := List.mem_filterMap.mp hm
      exact nfr (List.mem_filterMap.mpr ⟨e, List.mem_cons_of_mem _ he, q⟩)
    have nI : sI.heap.get? a = none := by
      cases q : sI.heap.get? a with
      | none => rfl
      | some o =>
        have z := nb a o q (by rw [hs]; exact nfr)
        rw [fl3.2.1] at z; cases z
    have new : X.s_0.heap.get? a = none := by
      cases q : X.s_0.heap.get? a with
      | none => rfl
      | some o =>
        obtain ⟨o', z⟩ := J.base.there a o q (by rw [hex]; simp)
        rw [nI] at z; cases z
    have hpn : ∀ p ∈ X.pn ++ pins, p.1 ≠ a := fun p hp z => by
      have := (J.pin p hp).1
      rw [z, nI] at this; cases this
    have S3 := J3.suite he3 hd3 na nL nF
    refine wpAny_handleBy_cons (codeAny_handlers_test ?_) (by intro q; cases q)
    have LT : PySem.W.Looks (model X.prog X.w) h3 (typeOf (.ref a)) cls := fun A Q E s k q => wpAny_typeOf_ref (k _ _ he3) (by rw [hz3.1]; exact q)
    have LM := PySem.W.exm_one (M := model X.prog X.w) (J3.kIn) LT hb1
    have test : ∀ {Q : Value → Shared → Prop} {E : Value → Shared → Prop}, Q c { s' with heap := h3 } → wpAny (model X.prog X.w) (X.A.mark (some (.ref a))) (eval (.Name x np) X.env) Q E { s' with heap := h3 } := fun {Q E} q => by
      obtain ⟨hg, hdbg, hm | ⟨hm, hv, hnn⟩⟩ := hc
      · exact ld_glob (X := X.suite a ((a, oe3) :: (X.pn ++ pins))) S3 hg hm q hdbg
      · exact ld_blt (X := X.suite a ((a, oe3) :: (X.pn ++ pins))) S3 hg hm hv q hnn hdbg
    refine test (LM.here ?_)
    cases b with
    | true =>
      refine codeAny_handlers_suite_as ?_
      refine HandSPX.lands_againZ fl3 fun h4 fl4 up4 => ?_
      have J4 : Inv X pins σ' H' { s' with heap := h4 } := J.landed nb fl4.1 ((up.trans up3).trans up4) os ag
      obtain ⟨oe4, vs4, he4, hz4, hd4⟩ := fl4.there
      have S4 := J4.suite he4 hd4 na nL nF
      refine store_ok (X := X.suite a ((a, oe4) :: (X.pn ++ pins))) (v := .ref a) S4 hN hi hloc rfl (fun s5 S5 => ?_) (.inr hln)
      refine wpAny_mono ((hsu a oe4 cls d (X.pn ++ pins) hz4 ⟨_, hd4⟩).run [] s5 _ H' _ S5 (hyes rfl a na)) (fun f s6 hsp => ?_) (fun _ _ z => False.elim z)
      have end_ : ∀ {σ6 : L2.St} {H6 : Hp} {Q : Shared → Prop}, Inv (X.suite a ((a, oe4) :: (X.pn ++ pins))) [] σ6 H6 s6 → (∀ s7, Inv X pins (σ6.set i none) H6 s7 → Q s7) →
          wpAny (model X.prog X.w) X.A (do bindName X.env n .none; unbindBehindTheSuite X.env n pos') (fun _ s7 => Q s7) X.xe s6 := fun {σ6 H6 Q} S6 hq => gone_ok (S6.unsuite ok) hN hi hln hq
      cases f with
      | next =>
        obtain ⟨σ6, H6, S6, q6⟩ := hsp
        obtain ⟨p1, p2, p3, p4, p5⟩ := S6.pin (a, oe4) (List.mem_append_left _ List.mem_cons_self)
        exact gone_ok (keep_ok (S6.unsuite ok) p1 hz4 hd4 p2 new p3 hpn) hN hi hln fun s7 J7 => ⟨_, _, J7, q6⟩
      | brk =>
        obtain ⟨σ6, H6, S6, q6⟩ := hsp
        exact end_ S6 fun s7 J7 => ⟨_, _, J7, q6⟩
      | cont =>
        obtain ⟨σ6, H6, S6, q6⟩ := hsp
        exact end_ S6 fun s7 J7 => ⟨_, _, J7, q6⟩
      | ret u =>
        obtain ⟨v6, σ6, H6, S6, r6, q6⟩ := hsp
        exact end_ S6 fun s7 J7 => ⟨_, _, _, J7, r6, q6⟩
    | false =>
      show wpAny _ X.A (handleBy (.ref a) X.env []) _ _ _
      refine wpAny_handleBy_nil ?_
      obtain ⟨k1, k2, k3, oe, vs, T, oT, ts', he, hz, hd, h1, hr⟩ := id fl3
      unfold PySem.passOn
      refine wpAny_bind (wpAny_field he hd h1 ?_)
      rw [if_neg (show ¬ ((Value.ref T == Value.none) = true) from by simp)]
      have fin : wpAny (model X.prog X.w) X.A (setFlight (.ref a) X.env.frame) (fun _ s4 => wpAny (model X.prog X.w) X.A (throw (.ref a) : Sem Flow) (SP X pins D) X.xe s4) X.xe { s' with heap := h3 } := by
        rw [hf]
        refine HandSPX.setFlight_upZ fl3 fun h4 hh4 up4 => wpAny_throw (tk _ _ ?_)
        exact ⟨a, B, sI, pins, σ', H', cls, d, rfl, J, nb, (up.trans up3).trans up4, .inr (.inr (by rw [hs]; exact hh4)), na, os, ag, hno rfl⟩
      first
        | exact wpAny_bind (wpAny_pure (wpAny_bind fin))
        | exact wpAny_bind fin
  · cases f with
    | next =>
      obtain ⟨σ', H', J', q⟩ := hsp
      exact wpAny_execs_nil ⟨σ', H', J'.ofTry ok, q⟩
    | brk =>
      obtain ⟨σ', H', J', q⟩ := hsp
      exact ⟨σ', H', J'.ofTry ok, q⟩
    | cont =>
      obtain ⟨σ', H', J', q⟩ := hsp
      exact ⟨σ', H', J'.ofTry ok, q⟩
    | ret u =>
      obtain ⟨v, σ', H', J', r, q⟩ := hsp
      exact ⟨v, σ', H', J'.ofTry ok, r, q⟩
end
/-- what an own error class says, so that a kept error's field f is read -/
def XfA (K : PySem.W.Frag) (f : Str) (C : Addr) : Prop := XfC K C ∧ PySem.W.findIn K (.ref C) f = some none
/-- e.f, e an error that is kept -/
def tXk (K : PySem.W.Frag) (f : Str) (te : TE) : TE := fun σ H Q => te σ H fun x H1 => ∃ (a C dd : Addr) (fs : List (Str × V)) (v : V), x = .ref a ∧ XfA K f C ∧ H1 a = some (exk a (.ref C) (some dd)) ∧ H1 dd = some (.xd fs) ∧ fs.lookup f = some v ∧ Q v H1
theorem pe_xk {X : Cx} {e : Expr} {te : TE} {pos : Pos} {n : Str} (he : PE X e te) (hb : attributeBase e n X.env (eval e X.env) = eval e X.env := by rfl) :
    PE X (.Attribute e n pos) (tXk X.K n te) := by
  refine ⟨fun pins s σ H Q I h => ?_⟩
  refine attr_of hb (thn (he.run pins s σ H _ I h) fun u s1 hh => ?_)
  obtain ⟨x, H1, I1, rx, a, C, dd, fs, v, ex, ⟨T, hno⟩, ek, ea, l, q⟩ := hh
  subst ex
  obtain rfl : u = Value.ref a := rx
  obtain ⟨oe, vs, ha, hz, hd⟩ := exk_at I1.hok ek
  have hx : ObjOk X.prog X.w H1 s1.heap dd (.xd fs) := I1.hok dd _ ea
  obtain ⟨mA, hns, hr⟩ := hx
  obtain ⟨od, ho, hl⟩ := lookIn_ns hns
  obtain ⟨u, hu, ru⟩ := RelO.some_of (v := v) (o := mA n) (by rw [← l]; exact hr n)
  have J : PySem.W.InstAt s1.heap a oe C (some od) := ⟨ha, hz.1, by unfold PySem.W.notCls; rw [hd] <;> rfl, by rw [hz.2]; exact ho⟩
  exact HandSPX.exc_get I1.kIn J T.ga T.gg T.exC (PySem.W.findObj_own T.hdC hno rfl (by rw [hl, hu])) (handed_of ru) ⟨v, H1, I1.tok _, ru, q⟩
/-- isinstance(e, c), e an error that is kept -/
def rIsK (K : PySem.W.Frag) : List V → Hp → VK → Prop := fun xs H Q => ∃ (a D dd : Addr) (fs : List (Str × V)) (c : V) (cv : Value) (b : Bool), xs = [.ref a, c] ∧ ExcC K D ∧ H a = some (exk a (.ref D) (some dd)) ∧ H dd = some (.xd fs) ∧ (∀ u, RelV c u → u = cv) ∧ PySem.W.kitOne K (.ref D) cv = some b ∧ Q (.bl b) H
theorem call_isK {X : Cx} : CallR X (.builtin "isinstance") (rIsK X.K) := by
  intro pins s σ H xs us Q I r h
  obtain ⟨a, D, dd, fs, c, cv, b, rfl, C, ek, ea, hcv, e, q⟩ := h
  cases r with
  | cons rx rr =>
    cases rr with
    | cons rt rr =>
      cases rr
      cases rx
      have ec := hcv _ rt
      subst ec
      obtain ⟨oe, vs, hget, hz, hv⟩ := exk_at I.hok ek
      have hx : ObjOk X.prog X.w H s.heap dd (.xd fs) := I.hok dd _ ea
      obtain ⟨mA, hns, hr⟩ := hx
      obtain ⟨od, ho, hl⟩ := lookIn_ns hns
      have J : PySem.W.InstAt s.heap a oe D (some od) := ⟨hget, hz.1, by unfold PySem.W.notCls; rw [hv] <;> rfl, by rw [hz.2]; exact ho⟩
      exact PySem.W.kia_one (PySem.W.xk_kitx C.hg C.hk C.hs C.hd C.ha C.hn C.ht C.hm) I.kIn J e (fun z => nomatch z) fun tk => ⟨.bl b, H, I.kept (t' := tk) fun _ _ z => z, rfl, q⟩
end XS

/-! what raising an own error with one field asks -/
namespace XE
open PySem PySem.Spec PyProof.Rows L2
/-- the heap behind C(v): the error let go, its dict left -/
theorem mk_heap {H : Hp} {a d : Addr} {o1 o2 o3 o4 : HO} (na : H a = none) (nd : d ≠ a) : upd (del (upd (upd (upd H a o1) d o2) a o3) a) d o4 = upd H d o4 := by
  funext b
  by_cases hb : b = d
  · subst hb; rw [upd_same, upd_same]
  · rw [upd_ne hb, upd_ne hb]
    by_cases ha : b = a
    · subst ha; rw [del_same, na]
    · rw [del_ne ha, upd_ne ha, upd_ne hb, upd_ne ha]
/-- what C(v) asks, C with an own __init__ that stores its one argument -/
theorem init_ends {C : Addr} {f : Str} {v : V} {H1 : Hp} {Q : Value → Option Addr → Hp → Prop} (h : ∀ d, H1 d = none → Q (.ref C) (some d) (upd H1 d (.xd [(f, v)]))) :
    ([v] : List V).length ≤ 1000 ∧ ∀ a, H1 a = none → XS.spInit C f (.ref a :: ([v] ++ [])) (upd H1 a (exo a C none))
      (fun v H2 => v = .non ∧ ∃ (d : Addr) (fs : List (Str × V)), H2 a = some (exo a C (some d)) ∧ H2 d = some (exd d fs) ∧ H1 d = none ∧ Q (.ref C) (some d) (upd (del H2 a) d (.xd fs))) (fun _ _ _ => False) := by
  refine ⟨by simp, fun a na => ⟨a, v, rfl, upd_same, fun dx n ne => ⟨rfl, dx, [(f, v)], upd_same, by rw [upd_ne ne, upd_same], ?_, ?_⟩⟩⟩
  · rw [upd_ne ne] at n; exact n
  · rw [mk_heap na ne]
    rw [upd_ne ne] at n
    exact h dx n
/-- what the text says of the error: its class and its __init__ -/
structure ErrC (K : PySem.W.Frag) (C fI : Addr) (fld : Str) : Prop where
  oex : OexC K C
  iC : PySem.W.findIn K (.ref C) "__init__" = some (some (.ref fI))
  tI : PySem.W.typeIn K (.ref fI) = some (.type "function")
end XE

set_option pp.maxSteps 900
/-! matching, with its error -/
namespace MM
open PySem PySem.Spec PyProof.Rows L2 KA KD PH PM RM RN K52b XT K55 K55b K55c K55d P5P P5N P5I CR XE
theorem scMA2 : FnScope ["first", "second", "places", "crowd", "low", "high"] ["first", "second"] (defScope sMA) := ⟨rfl, rfl, rfl, by decide +kernel, rfl, by decide +kernel, by decide +kernel⟩
/-- each with the amount 1 -/
def ones (V_ : List (Int × Int)) : List Ent := V_.map fun r => (r.1, r.2, 1)
/-- ranges of the first list that are within more ranges of it than of the second -/
structure Crowd (rs ss V_ : List (Int × Int)) : Prop where
  srt : V_.Pairwise Le
  nd : V_.Nodup
  mem : ∀ v ∈ V_, v ∈ rs
  ne : V_ ≠ []
  cnt : ss.countP (K57.ard V_) < rs.countP (K57.ard V_)
theorem make_tab {K : PySem.W.Frag} {CT c x dx : Addr} {H1 : Hp} {xs : List V} {es : List Ent} (hc : H1 c = some (.lst xs)) (tr : TripsAt H1 xs es) (le : es.length ≤ 500) (nx : H1 x = none) (ndx : H1 dx = none) {Q : VK} {E : XK} (q : ∀ H', Same H1 H' → TabAt H' CT x es → Q .non H') :
    spTI K CT [.ref x, .ref c] (upd (upd H1 dx (.own x)) x (.ins CT dx [])) Q E := by
  have k : ∀ b o, H1 b = some o → (upd (upd H1 dx (.own x)) x (.ins CT dx [])) b = some o := fun b o e => by
    rw [upd_ne (fun z => by rw [z, nx] at e; cases e), upd_ne (fun z => by rw [z, ndx] at e; cases e)]
    exact e
  exact ⟨x, c, dx, xs, es, rfl, upd_same, .inl (SqL.of (k _ _ hc)), tr.map fun p e z => k _ _ z, le, fun H' keep tab => q H' (fun b o e => keep b o (fun z => by rw [z, nx] at e; cases e) (k _ _ e)) tab⟩
section
variable {P : Program} {w : World} {K : PySem.W.Frag} {mg : Str → Option Value} {base : Heap}
def spMM (K : PySem.W.Frag) (C CT : Addr) : Sp := fun vs H Q E => ∃ (a b : Addr) (xs ys : List V) (rs ss : List (Int × Int)), vs = [.ref a, .ref b] ∧ Sq K H a xs ∧ PairsAt H xs rs ∧ Sq K H b ys ∧ PairsAt H ys ss ∧ Fw rs ∧ ss.length ≤ 500 ∧
  (nm rs ss = true → ∀ H' c (ps : List Int), Same H H' → H c = none → H' c = some (.lst (ps.map V.int)) → Mt rs ss ps → Q (.ref c) H') ∧
  (nm rs ss = false → ∀ H' dx t V_, Same H H' → TabAt H' CT t (ones V_) → H' dx = none → Crowd rs ss V_ → E (.ref C) (some dx) (upd H' dx (.xd [(("table" : Str), .ref t)])))
theorem ok_MM {f fBP fCR fTI fIN C CT : Addr} {fd dBP dCR dTI dIN : FuncData} {k : Nat} (F : Fun K "matching" "matching" sMA f fd) (GBP : FnOk P w K mg base CX0 (k + 3) fBP dBP ["first", "second"] (spBP K)) (gBP : mg "_best_places" = some (.ref fBP)) (kBP : PySem.W.keepIn K (.ref fBP) = true) (bBP : Binds K dBP ["first", "second"] [])
    (GCR : FnOk P w K mg base CX0 (k + 2) fCR dCR ["first", "second", "places"] (spCR K)) (gCR : mg "_crowd" = some (.ref fCR)) (kCR : PySem.W.keepIn K (.ref fCR) = true) (bCR : Binds K dCR ["first", "second", "places"] [])
    (MT : Mk K CT fTI) (GTI : FnOk P w K mg base CX0 (k + 1) fTI dTI ["self", "entries"] (spTI K CT)) (gT : mg "Table" = some (.ref CT)) (bTI : Binds K dTI ["self", "entries"] [])
    (TC : ErrC K C fIN "table") (gC : mg "More" = some (.ref C)) (GIN : FnOk P w K mg base CX0 1 fIN dIN ["self", "table"] (XS.spInit C "table")) (bIN : Binds K dIN ["self", "table"] []) : FnOk P w K mg base (CX P w) (k + 7) f fd ["first", "second"] (spMM K C CT) := by
  refine F.okX scMA2 (fun vs H Q E h => ?_) (fun cdv A outer s H vs Q E hr h => ?_)
  · obtain ⟨a, b, xs, ys, rs, ss, rfl, _⟩ := h
    rfl
  · obtain ⟨a, b, xs, ys, rs, ss, rfl, hA, pa, hB, pb, ⟨la, DD, lDD, mDD⟩, lb, hq, hE⟩ := h
    refine ⟨_, (pss_cons (ps_set (i := 2) scMA2.nd rfl (.inl rfl) (pe_call (GBP.mono (show k + 3 ≤ k + 6 by omega)) hr (by rfl) gBP kBP bBP .nil pass0 (pa_cons (pv 0) (pa_cons (pv 1) pa_nil))))
      (pss_cons (ps_if (pt_cmpR op_in_seq pe_non (pv 2) (by rfl)) (pss_cons (ps_set (i := 3) scMA2.nd rfl (.inl rfl) (pe_call (GCR.mono (show k + 2 ≤ k + 6 by omega)) hr (by rfl) gCR kCR bCR .nil pass0 (pa_cons (pv 0) (pa_cons (pv 1) (pa_cons (pv 2) pa_nil)))))
      (pss_one (ps_raise rfl (takes_of rfl rfl rfl rfl) (pmk_oex TC.oex TC.iC TC.tI GIN (hr.mono (show 1 + 1 ≤ k + 6 by omega)) bIN .nil pass0 (by rfl) gC (pa_cons (pe_make MT (GTI.mono (show k + 1 ≤ k + 5 by omega)) hr (by rfl) gT bTI .nil pass0 (pa_cons (pe_lc (own := [("low", 4), ("high", 5)]) (g := gTup K 2 (gCons (gName 4) (gCons (gName 5) gNil))) (tt := tYes) (te := tTup (tCons (tVar 4) (tCons (tVar 5) (tCons (tC (.int 1)) tNil)))) rfl scMA2.nd (pi_list (pv 3)) (blkOk_by (own := [("low", 4), ("high", 5)]) (N := ["first", "second", "places", "crowd", "low", "high"]) (sc := defScope sMA) (by decide +kernel)) (fun _ _ _ _ _ => (pg_tup rfl (pgs_cons (pg_name (i := 4) scMA2.nd rfl (Or.inl rfl) (Or.inr rfl)) (pgs_cons (pg_name (i := 5) scMA2.nd rfl (Or.inl rfl) (Or.inr rfl)) pgs_nil)))) (fun _ _ _ _ _ => pts_nil) (fun _ _ _ _ _ => (pe_tup (pa_cons (pv 4) (pa_cons (pv 5) (pa_cons pe_int pa_nil)))))) pa_nil)) pa_nil))))) pss_nil)
      (pss_one (ps_ret (pv 2))))), ?_⟩
    have l3s : 3 ≤ sizeLine := by decide
    refine ⟨.ref a, rfl, .ref b, rfl, a, b, xs, ys, rs, ss, rfl, hA, pa, hB, pb, by omega, lb, fun H1 c L fr0 s1 nc hc pL oL pf sf => ?_⟩
    obtain ⟨e1, e2⟩ := best_says pL oL pf sf
    cases hn : nm rs ss with
    | true =>
      obtain ⟨ps, e3, mt⟩ := best_all pL oL pf sf hn
      refine ⟨.ref c, rfl, c, _, rfl, .inl (SqL.of hc), rfl, e1, _, rfl, ?_⟩
      have e4 : inV .non (res (go (at0 rs) (at0 ss) L fr0) rs.length) = false := by
        rw [hn] at e2
        simpa using e2
      show if inV .non _ = true then _ else _
      rw [e4]
      exact iteF ⟨.ref c, rfl, hq hn H1 c ps s1 nc (by rw [← e3]; exact hc) mt⟩
    | false =>
      refine ⟨.ref c, rfl, c, _, rfl, .inl (SqL.of hc), rfl, e1, _, rfl, ?_⟩
      have e4 : inV .non (res (go (at0 rs) (at0 ss) L fr0) rs.length) = true := by
        rw [hn] at e2
        simpa using e2
      show if inV .non _ = true then _ else _
      rw [e4]
      refine iteT ⟨.ref a, rfl, .ref b, rfl, .ref c, rfl, a, b, c, xs, ys, rs, ss, L, fr0, rfl, hA.same s1, pa.same s1, hB.same s1, pb.same s1, ⟨la, DD, lDD, mDD⟩, lb, hc, inv_non.mp e4, pL, oL, pf, sf, fun H2 p us V_ s2 np hp pu srt nd mem ne cnt => ?_⟩
      have lV : V_.length ≤ 60 := Nat.le_trans (K55c.sub_len nd fun v hv => mDD v (mem v hv)) lDD
      have lu := pu.length
      refine ⟨.ref p, rfl, p, rfl, ⟨us, SqL.of hp⟩, fun D nD => ?_⟩
      refine lc_it (walk_list (xs := us)) (fun i Hz => Same H2 Hz ∧ ∃ acc : List V, Hz D = some (.lst acc) ∧ TripsAt Hz acc (ones (V_.take i))) ⟨same_new nD, [], upd_same, trivial⟩ (fun i Hz _ z => SqL.of (z.1 _ _ hp)) ?_ ?_
      · rintro i y Hz Hy hi ⟨sz, acc, eD, ta⟩ ⟨rfl, hy⟩
        obtain ⟨r, q, er, rfl, hq2⟩ := pr_at pu hy
        refine ⟨q, _, rfl, SqT.of (sz _ _ hq2), rfl, .int r.1, [.int r.2], rfl, .int r.2, [], rfl, rfl, rfl, iteT (B := True) ?_⟩
        refine ⟨.int r.1, rfl, .int r.2, rfl, l3s, fun u nu => ?_⟩
        have su := same_new (o := tri (r.1, r.2, 1)) nu
        have lacc := ta.length
        unfold ones at lacc
        rw [List.length_map, List.length_take] at lacc
        refine ⟨acc, su _ _ eD, small3000 (by omega), same_again nD (sz.trans su), acc ++ [.ref u], upd_same, ?_⟩
        have e : ones (V_.take (i + 1)) = ones (V_.take i) ++ [(r.1, r.2, 1)] := by
          unfold ones
          rw [List.take_add_one, er, Option.toList_some, List.map_append]
          rfl
        rw [e]
        exact ((ta.same su).app (trips_one (e := (r.1, r.2, 1)) upd_same)).but (fun b o n e => by rw [upd_ne n]; exact e) (su _ _ eD)
      rintro H3 ⟨s3, acc, eD, ta⟩
      rw [lu, List.take_length] at ta
      refine fun x dx nx ndx nd2 => make_tab eD ta (by unfold ones; rw [List.length_map]; omega) nx ndx fun H4 s4 tab => ⟨rfl, ?_⟩
      exact init_ends fun dy ndy => hE hn H4 dy x V_ (s1.trans (s2.trans (s3.trans s4))) tab ndy ⟨srt, nd, mem, ne, cnt⟩
end
end MM

/-! sizes; words of loads -/
namespace K57
open K55 K55b K55c RC RE RM RN KM PM
def cntS (rs : List (Int × Int)) (s : Int) : Nat := rs.countP (szB s)
def PS (rs ss : List (Int × Int)) (s : Int) : Prop := cntS ss s < cntS rs s
/-- the greatest size with more -/
def IsSz (rs ss : List (Int × Int)) : Option Int → Prop
  | none => ∀ s, ¬ PS rs ss s
  | some s => PS rs ss s ∧ ∀ t, s < t → ¬ PS rs ss t
theorem isSz_one {rs ss : List (Int × Int)} {o p : Option Int} (h : IsSz rs ss o) (g : IsSz rs ss p) : o = p := by
  cases o with
  | none =>
    cases p with
    | none => rfl
    | some s => exact absurd g.1 (h s)
  | some s =>
    cases p with
    | none => exact absurd h.1 (g s)
    | some t =>
      rcases Int.lt_trichotomy s t with z | z | z
      · exact absurd g.1 (h.2 t z)
      · rw [z]
      · exact absurd h.1 (g.2 s z)
theorem nm_sz {rs ss : List (Int × Int)} (h : NMm rs ss) : IsSz rs ss none := fun s z => by
  have := nm_le (sz_up s) h
  unfold PS cntS at z
  omega
def szs (rs : List (Int × Int)) : List Int := rs.map fun r => r.2 - r.1
theorem cntS_szs (rs : List (Int × Int)) (s : Int) : cntS rs s = (szs rs).countP fun x => decide (s ≤ x) := by
  unfold cntS szs
  rw [List.countP_map]
  rfl
theorem desc_iff : ∀ {A : List Int} {i : Nat} {x t : Int}, A.Pairwise (fun x y => y ≤ x) → A[i]? = some x → (t ≤ x ↔ i < A.countP fun y => decide (t ≤ y))
  | a :: A, 0, x, t, h, e => by
    obtain rfl : a = x := by simpa using e
    rw [List.countP_cons]
    constructor
    · intro z
      rw [if_pos (decide_eq_true z)]
      omega
    · intro z
      by_cases q : t ≤ a
      · exact q
      · rw [if_neg (by simpa using q)] at z
        have : 0 < A.countP fun y => decide (t ≤ y) := by omega
        obtain ⟨y, hy, hq⟩ := List.countP_pos_iff.mp this
        have := (List.pairwise_cons.mp h).1 y hy
        have := of_decide_eq_true hq
        omega
  | a :: A, i + 1, x, t, h, e => by
    have h2 := List.pairwise_cons.mp h
    have e2 : A[i]? = some x := by simpa using e
    have ih := desc_iff (t := t) h2.2 e2
    have hx := h2.1 x (List.mem_of_getElem? e2)
    rw [List.countP_cons]
    by_cases q : t ≤ a
    · rw [if_pos (decide_eq_true q)]
      omega
    · rw [if_neg (by simpa using q)]
      omega
theorem cnt_le {A : List Int} (t : Int) : (A.countP fun y => decide (t ≤ y)) ≤ A.length := List.countP_le_length
/-- the first place at which the sorted sizes of the first list are more -/
theorem sz_stop {rs ss : List (Int × Int)} {A B : List Int} {i : Nat} {x : Int} (pA : A.Perm (szs rs)) (sA : A.Pairwise fun x y => y ≤ x) (pB : B.Perm (szs ss)) (sB : B.Pairwise fun x y => y ≤ x)
    (hb : ∀ j, j < i → ∃ a b, A[j]? = some a ∧ B[j]? = some b ∧ a ≤ b) (hi : A[i]? = some x) (hs : B.length ≤ i ∨ ∃ b, B[i]? = some b ∧ b < x) : IsSz rs ss (some x) := by
  have cA : ∀ s, cntS rs s = A.countP fun y => decide (s ≤ y) := fun s => by rw [cntS_szs, pA.countP_eq]
  have cB : ∀ s, cntS ss s = B.countP fun y => decide (s ≤ y) := fun s => by rw [cntS_szs, pB.countP_eq]
  constructor
  · unfold PS
    rw [cA, cB]
    have h1 := (desc_iff (t := x) sA hi).mp (Int.le_refl x)
    rcases hs with hs | ⟨b, hb2, hlt⟩
    · have := cnt_le (A := B) x
      omega
    · have h2 := (desc_iff (t := x) sB hb2)
      by_cases z : i < B.countP fun y => decide (x ≤ y)
      · have := h2.mpr z
        omega
      · omega
  · intro t ht z
    unfold PS at z
    rw [cA, cB] at z
    have h1 : ¬ i < A.countP fun y => decide (t ≤ y) := fun q => by
      have := (desc_iff (t := t) sA hi).mpr q
      omega
    obtain ⟨j, hj⟩ : ∃ j, j = (A.countP fun y => decide (t ≤ y)) - 1 := ⟨_, rfl⟩
    have hj2 : j < A.countP fun y => decide (t ≤ y) := by omega
    obtain ⟨a, b, ea, eb, hab⟩ := hb j (by omega)
    have h3 := (desc_iff (t := t) sA ea).mpr hj2
    have h4 := (desc_iff (t := t) sB eb).mp (by omega)
    omega
theorem sz_none {rs ss : List (Int × Int)} {A B : List Int} (pA : A.Perm (szs rs)) (sA : A.Pairwise fun x y => y ≤ x) (pB : B.Perm (szs ss)) (sB : B.Pairwise fun x y => y ≤ x)
    (hb : ∀ j, j < A.length → ∃ a b, A[j]? = some a ∧ B[j]? = some b ∧ a ≤ b) : IsSz rs ss none := fun t z => by
  unfold PS at z
  rw [cntS_szs, cntS_szs, ← pA.countP_eq, ← pB.countP_eq] at z
  have l := cnt_le (A := A) t
  obtain ⟨j, hj⟩ : ∃ j, j = (A.countP fun y => decide (t ≤ y)) - 1 := ⟨_, rfl⟩
  have hj2 : j < A.countP fun y => decide (t ≤ y) := by omega
  obtain ⟨a, b, ea, eb, hab⟩ := hb j (by omega)
  have h3 := (desc_iff (t := t) sA ea).mpr hj2
  have h4 := (desc_iff (t := t) sB eb).mp (by omega)
  omega
/-- counted from 1 to n -/
def upto (rs ss : List (Int × Int)) : Nat → Option Int
  | 0 => none
  | n + 1 => if cntS ss ((n : Int) + 1) < cntS rs ((n : Int) + 1) then some ((n : Int) + 1) else upto rs ss n
theorem upto_says {rs ss : List (Int × Int)} : ∀ n : Nat, match upto rs ss n with
    | none => ∀ s : Int, 1 ≤ s → s ≤ n → ¬ PS rs ss s
    | some s => 1 ≤ s ∧ s ≤ n ∧ PS rs ss s ∧ ∀ t : Int, s < t → t ≤ n → ¬ PS rs ss t
  | 0 => fun s h1 h2 => absurd h1 (by omega)
  | n + 1 => by
    have ih := upto_says (rs := rs) (ss := ss) n
    unfold upto
    by_cases z : cntS ss ((n : Int) + 1) < cntS rs ((n : Int) + 1)
    · rw [if_pos z]
      exact ⟨by omega, by omega, z, fun t h1 h2 => absurd h1 (by omega)⟩
    · rw [if_neg z]
      cases e : upto rs ss n with
      | none =>
        rw [e] at ih
        intro s h1 h2
        by_cases q : s ≤ n
        · exact ih s h1 q
        · have : s = (n : Int) + 1 := by omega
          rw [this]
          exact z
      | some s =>
        rw [e] at ih
        obtain ⟨i1, i2, i3, i4⟩ := ih
        refine ⟨i1, by omega, i3, fun t h1 h2 => ?_⟩
        by_cases q : t ≤ n
        · exact i4 t h1 q
        · have : t = (n : Int) + 1 := by omega
          rw [this]
          exact z
theorem upto_sz {rs ss : List (Int × Int)} {n : Nat} (h1 : ∀ r ∈ rs, 1 ≤ r.2 - r.1 ∧ r.2 - r.1 ≤ n) (h2 : ∀ r ∈ ss, 1 ≤ r.2 - r.1) : IsSz rs ss (upto rs ss n) := by
  have u := upto_says (rs := rs) (ss := ss) n
  have big : ∀ t : Int, n < t → ¬ PS rs ss t := fun t ht z => by
    have : 0 < cntS rs t := by unfold PS at z; omega
    obtain ⟨r, hr, hq⟩ := List.countP_pos_iff.mp this
    have := h1 r hr
    have := of_decide_eq_true hq
    omega
  cases e : upto rs ss n with
  | none =>
    rw [e] at u
    intro s z
    by_cases q : 1 ≤ s
    · by_cases q2 : s ≤ n
      · exact u s q q2 z
      · exact big s (by omega) z
    · have all : ∀ l : List (Int × Int), (∀ r ∈ l, 1 ≤ r.2 - r.1) → ∀ t : Int, t ≤ 1 → cntS l t = l.length := fun l hl t ht => List.countP_eq_length.mpr fun r hr => by
        have := hl r hr
        exact decide_eq_true (by omega)
      unfold PS at z
      rw [all rs (fun r hr => (h1 r hr).1) s (by omega), all ss h2 s (by omega)] at z
      have hn : 1 ≤ (n : Int) := by
        have : 0 < rs.length := by omega
        obtain ⟨r, hr⟩ := List.exists_mem_of_length_pos this
        have := h1 r hr
        omega
      refine u 1 (by omega) hn ?_
      unfold PS
      rw [all rs (fun r hr => (h1 r hr).1) 1 (by omega), all ss h2 1 (by omega)]
      exact z
  | some s =>
    rw [e] at u
    obtain ⟨i1, i2, i3, i4⟩ := u
    refine ⟨i3, fun t ht => ?_⟩
    by_cases q2 : t ≤ n
    · exact i4 t ht q2
    · exact big t (by omega)
/-- stretched: sizes too -/
def scl (far step : Int) (r : Int × Int) : Int × Int := (r.1 * step + far, r.2 * step + far)
theorem cnt_scl {step : Int} (h : 0 < step) (t : Int) : ∃ c : Int, (∀ z : Int, t ≤ z * step ↔ c ≤ z) ∧ ∀ (far : Int) (rs : List (Int × Int)), cntS (rs.map (scl far step)) t = cntS rs c := by
  refine ⟨-((-t) / step), fun z => ?_, fun far rs => ?_⟩
  · have d1 := Int.mul_ediv_add_emod (-t) step
    have d2 := Int.emod_nonneg (-t) (show step ≠ 0 by omega)
    have d3 := Int.emod_lt_of_pos (-t) h
    generalize (-t) / step = q at *
    generalize (-t) % step = m at *
    constructor
    · intro e
      by_cases g : -q ≤ z
      · exact g
      · have : z + q + 1 ≤ 0 := by omega
        have : step * (z + q + 1) ≤ 0 := by
          have := Int.mul_le_mul_of_nonneg_left this (show 0 ≤ step by omega)
          simpa using this
        have e1 : step * (z + q + 1) = z * step + step * q + step := by rw [Int.mul_add, Int.mul_add, Int.mul_one, Int.mul_comm step z]
        omega
    · intro e
      have : 0 ≤ step * (z + q) := Int.mul_nonneg (by omega) (by omega)
      have e1 : step * (z + q) = z * step + step * q := by rw [Int.mul_add, Int.mul_comm step z]
      omega
  · unfold cntS
    rw [List.countP_map]
    refine List.countP_congr fun r _ => ?_
    have key : ∀ z : Int, t ≤ z * step ↔ -((-t) / step) ≤ z := fun z => by
      have d1 := Int.mul_ediv_add_emod (-t) step
      have d2 := Int.emod_nonneg (-t) (show step ≠ 0 by omega)
      have d3 := Int.emod_lt_of_pos (-t) h
      generalize (-t) / step = q at *
      generalize (-t) % step = m at *
      constructor
      · intro e
        by_cases g : -q ≤ z
        · exact g
        · have : z + q + 1 ≤ 0 := by omega
          have : step * (z + q + 1) ≤ 0 := by
            have := Int.mul_le_mul_of_nonneg_left this (show 0 ≤ step by omega)
            simpa using this
          have e1 : step * (z + q + 1) = z * step + step * q + step := by rw [Int.mul_add, Int.mul_add, Int.mul_one, Int.mul_comm step z]
          omega
      · intro e
        have : 0 ≤ step * (z + q) := Int.mul_nonneg (by omega) (by omega)
        have e1 : step * (z + q) = z * step + step * q := by rw [Int.mul_add, Int.mul_comm step z]
        omega
    show (szB t (scl far step r)) = true ↔ (szB (-((-t) / step)) r) = true
    unfold szB scl
    rw [decide_eq_true_iff, decide_eq_true_iff]
    have e : r.2 * step + far - (r.1 * step + far) = (r.2 - r.1) * step := by rw [Int.sub_mul]; omega
    show t ≤ r.2 * step + far - (r.1 * step + far) ↔ _
    rw [e]
    exact key _
theorem isSz_scl {rs ss : List (Int × Int)} {o : Option Int} {step far far2 : Int} (h : 0 < step) (g : IsSz rs ss o) : IsSz (rs.map (scl far step)) (ss.map (scl far2 step)) (o.map (· * step)) := by
  have ps : ∀ t, ∃ c : Int, (∀ z : Int, t ≤ z * step ↔ c ≤ z) ∧ (PS (rs.map (scl far step)) (ss.map (scl far2 step)) t ↔ PS rs ss c) := fun t => by
    obtain ⟨c, h1, h2⟩ := cnt_scl h t
    refine ⟨c, h1, ?_⟩
    unfold PS
    rw [h2, h2]
  cases o with
  | none =>
    intro t z
    obtain ⟨c, _, h2⟩ := ps t
    exact g c (h2.mp z)
  | some s =>
    constructor
    · show PS _ _ (s * step)
      obtain ⟨c, h1, h2⟩ := ps (s * step)
      rw [h2]
      have c1 : c ≤ s := (h1 s).mp (Int.le_refl _)
      have c2 : ¬ c ≤ s - 1 := fun z => by
        have := (h1 (s - 1)).mpr z
        rw [Int.sub_mul, Int.one_mul] at this
        omega
      have : c = s := by omega
      rw [this]
      exact g.1
    · intro t ht z
      have ht : s * step < t := ht
      obtain ⟨c, h1, h2⟩ := ps t
      have : ¬ c ≤ s := fun q => by
        have := (h1 s).mpr q
        omega
      exact g.2 c (by omega) (h2.mp z)
/-! ### words -/
noncomputable def nmB (rs ss : List (Int × Int)) : Bool := @decide (NMm rs ss) (Classical.propDecidable _)
theorem nmB_iff {rs ss : List (Int × Int)} : nmB rs ss = true ↔ NMm rs ss := by unfold nmB; exact @decide_eq_true_iff _ (Classical.propDecidable _)
inductive Wd where
  | alike | less | more | neither
deriving DecidableEq
noncomputable def word (es fs : List (Int × Int)) : Wd := if es = fs then .alike else if nmB es fs = true then .less else if nmB fs es = true then .more else .neither
def trn : Wd → Wd
  | .alike => .alike | .less => .more | .more => .less | .neither => .neither
theorem word_trn {es fs : List (Int × Int)} (h : es.Pairwise Le) (g : fs.Pairwise Le) : word fs es = trn (word es fs) := by
  unfold word
  by_cases e : es = fs
  · rw [if_pos e, if_pos e.symm]
    rfl
  · rw [if_neg e, if_neg (fun z => e z.symm)]
    by_cases a : nmB es fs = true <;> by_cases b : nmB fs es = true
    · exact absurd (sorted_same (count_both (nmB_iff.mp a) (nmB_iff.mp b)) h g) e
    · simp [a, b, trn]
    · simp [a, b, trn]
    · simp [a, b, trn]
theorem word_self (es : List (Int × Int)) : word es es = .alike := if_pos rfl
theorem at1_map {g : Int × Int → Int × Int} {rs : List (Int × Int)} {i : Nat} (h : i < rs.length) : at1 (rs.map g) i = g (at1 rs i) := by
  unfold at1
  rw [List.getElem?_map, List.getElem?_eq_getElem h]
  rfl
theorem nm_map {g : Int × Int → Int × Int} (hg : ∀ o r, cont (g o) (g r) ↔ cont o r) {rs ss : List (Int × Int)} : NMm (rs.map g) (ss.map g) ↔ NMm rs ss := by
  unfold NMm
  simp only [List.length_map]
  constructor
  · rintro ⟨o, h1, h2, h3⟩
    refine ⟨o, h1, fun i hi => ?_, h3⟩
    have := h2 i hi
    rw [at1_map hi, at1_map (h1 i hi), hg] at this
    exact this
  · rintro ⟨o, h1, h2, h3⟩
    refine ⟨o, h1, fun i hi => ?_, h3⟩
    rw [at1_map hi, at1_map (h1 i hi), hg]
    exact h2 i hi
theorem scl_cont {far step : Int} (h : 0 < step) (o r : Int × Int) : cont (scl far step o) (scl far step r) ↔ cont o r := by
  unfold cont scl
  have m : ∀ a b : Int, a * step + far ≤ b * step + far ↔ a ≤ b := fun a b => by
    constructor
    · intro z
      exact Int.le_of_mul_le_mul_right (show a * step ≤ b * step by omega) h
    · intro z
      have := Int.mul_le_mul_of_nonneg_right z (show 0 ≤ step by omega)
      omega
  show (o.1 * step + far ≤ r.1 * step + far ∧ r.2 * step + far ≤ o.2 * step + far) ↔ _
  rw [m, m]
theorem scl_inj {far step : Int} (h : 0 < step) {o r : Int × Int} (e : scl far step o = scl far step r) : o = r := by
  have a := (scl_cont (far := far) h o r).mp (by rw [e]; exact cont_refl _)
  have b := (scl_cont (far := far) h r o).mp (by rw [e]; exact cont_refl _)
  unfold cont at a b
  exact Prod.ext (by omega) (by omega)
theorem word_scl {es fs : List (Int × Int)} {far step : Int} (h : 0 < step) : word (es.map (scl far step)) (fs.map (scl far step)) = word es fs := by
  have i1 : (es.map (scl far step) = fs.map (scl far step)) = (es = fs) := propext ⟨fun e => List.map_inj_right (fun _ _ => scl_inj h) |>.mp e, fun e => by rw [e]⟩
  have i2 : ∀ rs ss : List (Int × Int), nmB (rs.map (scl far step)) (ss.map (scl far step)) = nmB rs ss := fun rs ss => by
    cases e : nmB rs ss with
    | true => exact nmB_iff.mpr ((nm_map (scl_cont h)).mpr (nmB_iff.mp e))
    | false =>
      cases e2 : nmB (rs.map (scl far step)) (ss.map (scl far step)) with
      | false => rfl
      | true => rw [nmB_iff.mpr ((nm_map (scl_cont h)).mp (nmB_iff.mp e2))] at e; cases e
  unfold word
  rw [i2, i2]
  by_cases e : es = fs
  · rw [if_pos e, if_pos (by rw [e])]
  · rw [if_neg e, if_neg (by rw [i1]; exact e)]
theorem scl_le {far step : Int} (h : 0 < step) {o r : Int × Int} (e : Le o r) : Le (scl far step o) (scl far step r) := by
  have e : o.1 < r.1 ∨ (o.1 = r.1 ∧ o.2 ≤ r.2) := e
  show o.1 * step + far < r.1 * step + far ∨ (o.1 * step + far = r.1 * step + far ∧ o.2 * step + far ≤ r.2 * step + far)
  rcases e with z | ⟨z1, z2⟩
  · have := Int.mul_lt_mul_of_pos_right z h
    exact .inl (by omega)
  · have := Int.mul_le_mul_of_nonneg_right z2 (show 0 ≤ step by omega)
    exact .inr ⟨by rw [z1], by omega⟩
theorem hc_one {ns : List Int} {es fs : List (Int × Int)} (h : Hc ns es) (g : Hc ns fs) : es = fs := by
  have b : ∃ u v : Int, ∀ x ∈ ns, u ≤ x ∧ x ≤ v := by
    clear h g
    induction ns with
    | nil => exact ⟨0, 0, fun _ z => (List.not_mem_nil z).elim⟩
    | cons a l ih =>
      obtain ⟨u, v, h⟩ := ih
      refine ⟨if a < u then a else u, if v < a then a else v, fun x hx => ?_⟩
      rcases List.mem_cons.mp hx with z | z
      · subst z
        constructor <;> split <;> omega
      · have := h x z
        constructor <;> split <;> omega
  obtain ⟨u, v, hb⟩ := b
  exact (same_iff h g hb hb).mpr fun _ _ _ _ _ => rfl
theorem hc_lt {ns : List Int} {es : List (Int × Int)} (h : Hc ns es) : ∀ r ∈ es, r.1 < r.2 := by
  have b : ∃ u v : Int, ∀ x ∈ ns, u ≤ x ∧ x ≤ v := by
    clear h
    induction ns with
    | nil => exact ⟨0, 0, fun _ z => (List.not_mem_nil z).elim⟩
    | cons a l ih =>
      obtain ⟨u, v, h⟩ := ih
      refine ⟨if a < u then a else u, if v < a then a else v, fun x hx => ?_⟩
      rcases List.mem_cons.mp hx with z | z
      · subst z
        constructor <;> split <;> omega
      · have := h x z
        constructor <;> split <;> omega
  obtain ⟨u, v, hb⟩ := b
  exact fun r hr => (h.inr hb r hr).2.1
theorem sw_map {f : Int → Int} (h : K9.Str f) : ∀ ps : List Int, sw (ps.map f) = (sw ps).map (K9.mp f)
  | [] => rfl
  | [_] => rfl
  | a :: b :: r => by
    have ih := sw_map h (b :: r)
    show rg (f a) (f b) :: sw ((b :: r).map f) = K9.mp f (rg a b) :: (sw (b :: r)).map (K9.mp f)
    rw [ih, K9.rg_map h]
theorem hc_scl {ns : List Int} {es : List (Int × Int)} {far step : Int} (hs : 0 < step) (h : Hc ns es) : Hc (ns.map fun x => x * step + far) (es.map (scl far step)) := by
  have m : ∀ a b : Int, a < b ↔ a * step + far < b * step + far := fun a b => by
    constructor
    · intro z
      have := Int.mul_lt_mul_of_pos_right z hs
      omega
    · intro z
      exact Int.lt_of_mul_lt_mul_right (show a * step < b * step by omega) (by omega)
  have st : K9.Str fun x => x * step + far := .inl m
  have lt := hc_lt h
  obtain ⟨cs, ds, rs, run, nf, p1, p2⟩ := h.ex
  have ee : es.map (scl far step) = es.map (K9.mp fun x => x * step + far) := List.map_congr_left fun r hr => by
    have := (m r.1 r.2).mp (lt r hr)
    unfold K9.mp scl
    rw [rg_up this]
  refine ⟨⟨cs.map (K9.mp _), ds.map (K9.mp _), rs.map _, by rw [K9.tp_map st]; exact K9.run_map st run, K9.nf_map st nf, p1.map _, ?_⟩, ?_⟩
  · rw [ee, sw_map st]
    have := p2.map (K9.mp fun x => x * step + far)
    rwa [List.map_append, List.map_append] at this
  · rw [List.pairwise_map]
    exact h.srt.imp fun z => scl_le hs z
/-! ### sets -/
def subs {α : Type} : List α → List (List α) → List (List α)
  | [], L => L
  | t :: D, L => subs D (L ++ L.map (· ++ [t]))
theorem subs_mem {α : Type} : ∀ {D : List α} {L : List (List α)} {s : List α}, s ∈ L → ∀ q : α → Bool, s ++ D.filter q ∈ subs D L
  | [], L, s, h, q => by simpa [subs] using h
  | t :: D, L, s, h, q => by
    show s ++ (t :: D).filter q ∈ subs D (L ++ L.map (· ++ [t]))
    rw [List.filter_cons]
    cases e : q t with
    | true =>
      rw [if_pos rfl, show s ++ t :: D.filter q = (s ++ [t]) ++ D.filter q by simp]
      exact subs_mem (List.mem_append_right _ (List.mem_map.mpr ⟨s, h, rfl⟩)) q
    | false =>
      rw [if_neg Bool.false_ne_true]
      exact subs_mem (List.mem_append_left _ h) q
theorem subs_in {α : Type} : ∀ {D : List α} {L : List (List α)} {s : List α}, s ∈ subs D L → ∃ l ∈ L, ∀ x ∈ s, x ∈ l ∨ x ∈ D
  | [], L, s, h => ⟨s, h, fun x hx => .inl hx⟩
  | t :: D, L, s, h => by
    obtain ⟨l, hl, hx⟩ := subs_in (D := D) (L := L ++ L.map (· ++ [t])) h
    rcases List.mem_append.mp hl with z | z
    · exact ⟨l, z, fun x g => (hx x g).imp id (List.mem_cons_of_mem _)⟩
    · obtain ⟨m, hm, rfl⟩ := List.mem_map.mp z
      refine ⟨m, hm, fun x g => ?_⟩
      rcases hx x g with y | y
      · rcases List.mem_append.mp y with y | y
        · exact .inl y
        · rw [List.mem_singleton.mp y]
          exact .inr List.mem_cons_self
      · exact .inr (List.mem_cons_of_mem _ y)
theorem subs_len {α : Type} : ∀ (D : List α) (L : List (List α)), (subs D L).length = L.length * 2 ^ D.length
  | [], L => by simp [subs]
  | t :: D, L => by
    show (subs D (L ++ L.map (· ++ [t]))).length = _
    rw [subs_len, List.length_append, List.length_map, List.length_cons, Nat.pow_succ, ← Nat.mul_two, Nat.mul_assoc, Nat.mul_comm 2]
theorem ard_congr {V W : List (Int × Int)} (h : ∀ v, v ∈ V ↔ v ∈ W) (r : Int × Int) : ard V r = ard W r := by
  unfold ard
  rw [Bool.eq_iff_iff, List.any_eq_true, List.any_eq_true]
  exact ⟨fun ⟨v, a, b⟩ => ⟨v, (h v).mp a, b⟩, fun ⟨v, a, b⟩ => ⟨v, (h v).mpr a, b⟩⟩
theorem nm_subs {rs ss D : List (Int × Int)} (hD : ∀ v, v ∈ D ↔ v ∈ rs) : NMm rs ss ↔ ∀ V ∈ subs D [[]], rs.countP (ard V) ≤ ss.countP (ard V) := by
  rw [nm_sets]
  constructor
  · intro h V hV
    refine h V fun v hv => ?_
    obtain ⟨l, hl, hx⟩ := subs_in hV
    rw [List.mem_singleton.mp hl] at hx
    exact (hD v).mp ((hx v hv).resolve_left (List.not_mem_nil))
  · intro h V hV
    have m := subs_mem (D := D) (L := [[]]) (s := []) (List.mem_singleton.mpr rfl) fun v => V.contains v
    have e : ∀ v, v ∈ [] ++ D.filter (fun v => V.contains v) ↔ v ∈ V := fun v => by
      rw [List.nil_append, List.mem_filter, List.contains_iff_mem]
      exact ⟨fun z => z.2, fun z => ⟨(hD v).mpr (hV v z), z⟩⟩
    have := h _ m
    rw [List.countP_congr (l := rs) (p := ard V) (q := ard ([] ++ D.filter fun v => V.contains v)) (fun r _ => by rw [ard_congr e]), List.countP_congr (l := ss) (p := ard V) (q := ard ([] ++ D.filter fun v => V.contains v)) (fun r _ => by rw [ard_congr e])]
    exact this
end K57

/-! the least factor: by sets of ranges, step by step -/
namespace K65
open PySem K55 K55b K55c K57
section
variable {rs ss : List (Int × Int)}
/-- a list behind itself -/
def rep (n : Nat) (rs : List (Int × Int)) : List (Int × Int) := (List.replicate n rs).flatten
theorem rep_succ (n : Nat) (rs : List (Int × Int)) : rep (n + 1) rs = rs ++ rep n rs := by
  unfold rep
  rw [List.replicate_succ, List.flatten_cons]
theorem rep_len : ∀ (n : Nat) (rs : List (Int × Int)), (rep n rs).length = n * rs.length
  | 0, rs => by rw [Nat.zero_mul]; rfl
  | n + 1, rs => by rw [rep_succ, List.length_append, rep_len n rs, Nat.succ_mul, Nat.add_comm]
theorem rep_cnt (p : Int × Int → Bool) : ∀ (n : Nat) (rs : List (Int × Int)), (rep n rs).countP p = n * rs.countP p
  | 0, rs => by rw [Nat.zero_mul]; rfl
  | n + 1, rs => by rw [rep_succ, List.countP_append, rep_cnt p n rs, Nat.succ_mul, Nat.add_comm]
theorem rep_mem {n : Nat} {rs : List (Int × Int)} {v : Int × Int} (h : v ∈ rep n rs) : v ∈ rs := by
  unfold rep at h
  obtain ⟨l, hl, hv⟩ := List.mem_flatten.mp h
  rw [(List.mem_replicate.mp hl).2] at hv
  exact hv
theorem rep_one (rs : List (Int × Int)) : rep 1 rs = rs := by rw [rep_succ]; exact List.append_nil _
/-- a set of ranges of the first list -/
def Sb (rs V : List (Int × Int)) : Prop := ∀ v ∈ V, v ∈ rs
theorem all_le {p q : Nat} (hq : 0 < q) (h : NMm (rep q rs) (rep p ss)) : ∀ V, Sb rs V → q * rs.countP (ard V) ≤ p * ss.countP (ard V) := fun V hV => by
  have := nm_le (ard_up V) h
  rw [rep_cnt, rep_cnt] at this
  exact this
/-- the fractions by the steps of the program: 0, or that of a set, in lowest terms -/
inductive Fr (rs ss : List (Int × Int)) : Nat → Nat → List (Int × Int) → Prop
  | zero : Fr rs ss 0 1 []
  | of {V : List (Int × Int)} : Sb rs V → 0 < rs.countP (ard V) → 0 < ss.countP (ard V) → Fr rs ss (rs.countP (ard V) / Nat.gcd (rs.countP (ard V)) (ss.countP (ard V))) (ss.countP (ard V) / Nat.gcd (rs.countP (ard V)) (ss.countP (ard V))) V
theorem Fr.pos {p q : Nat} {V : List (Int × Int)} (h : Fr rs ss p q V) : 0 < q := by
  cases h with
  | zero => exact Nat.one_pos
  | of hV hr hs => exact Nat.div_pos (Nat.le_of_dvd hs (Nat.gcd_dvd_right _ _)) (Nat.gcd_pos_of_pos_left _ hr)
theorem Fr.cop {p q : Nat} {V : List (Int × Int)} (h : Fr rs ss p q V) : Nat.Coprime p q := by
  cases h with
  | zero => decide
  | of hV hr hs => exact Nat.coprime_div_gcd_div_gcd (Nat.gcd_pos_of_pos_left _ hr)
theorem Fr.eq {p q : Nat} {V : List (Int × Int)} (h : Fr rs ss p q V) : q * rs.countP (ard V) = p * ss.countP (ard V) := by
  cases h with
  | zero =>
    have : rs.countP (ard []) = 0 := by
      rw [List.countP_eq_zero]
      intro r _ z
      simp [ard] at z
    rw [this, Nat.zero_mul, Nat.mul_zero]
  | of hV hr hs =>
    generalize rs.countP (ard V) = a at *
    generalize ss.countP (ard V) = b at *
    have h1 := Nat.div_mul_cancel (Nat.gcd_dvd_left a b)
    have h2 := Nat.div_mul_cancel (Nat.gcd_dvd_right a b)
    generalize Nat.gcd a b = g at *
    generalize a / g = x at *
    generalize b / g = y at *
    subst h1
    subst h2
    rw [← Nat.mul_assoc, ← Nat.mul_assoc, Nat.mul_comm y x]
theorem Fr.sb {p q : Nat} {V : List (Int × Int)} (h : Fr rs ss p q V) : Sb rs V := by
  cases h with
  | zero => exact fun _ z => (List.not_mem_nil z).elim
  | of hV _ _ => exact hV
theorem Fr.le {p q : Nat} {V : List (Int × Int)} (h : Fr rs ss p q V) : p ≤ rs.length ∧ q ≤ ss.length + 1 := by
  cases h with
  | zero => exact ⟨Nat.zero_le _, by omega⟩
  | of hV hr hs =>
    have h1 : rs.countP (ard V) ≤ rs.length := List.countP_le_length
    have h2 : ss.countP (ard V) ≤ ss.length := List.countP_le_length
    exact ⟨Nat.le_trans (Nat.div_le_self _ _) h1, Nat.le_trans (Nat.div_le_self _ _) (Nat.le_succ_of_le h2)⟩
theorem Fr.le1 {p q : Nat} {V : List (Int × Int)} (h : Fr rs ss p q V) : (p = 0 ∧ q = 1) ∨ (0 < p ∧ q ≤ ss.length ∧ 0 < rs.countP (ard V) ∧ 0 < ss.countP (ard V)) := by
  cases h with
  | zero => exact .inl ⟨rfl, rfl⟩
  | of hV hr hs =>
    have h2 : ss.countP (ard V) ≤ ss.length := List.countP_le_length
    exact .inr ⟨Nat.div_pos (Nat.le_of_dvd hr (Nat.gcd_dvd_left _ _)) (Nat.gcd_pos_of_pos_left _ hr), Nat.le_trans (Nat.div_le_self _ _) h2, hr, hs⟩
/-- the factor: the greatest fraction, none greater -/
structure Ft (rs ss : List (Int × Int)) (p q : Nat) (V : List (Int × Int)) : Prop where
  fr : Fr rs ss p q V
  le : ∀ V, Sb rs V → q * rs.countP (ard V) ≤ p * ss.countP (ard V)
theorem low_one {p q p2 q2 : Nat} (c : Nat.Coprime p q) (c2 : Nat.Coprime p2 q2) (hq : 0 < q) (hq2 : 0 < q2) (e : p * q2 = p2 * q) : p = p2 ∧ q = q2 := by
  have d1 : q ∣ q2 := (Nat.Coprime.dvd_of_dvd_mul_left c.symm ⟨p2, by rw [e, Nat.mul_comm]⟩)
  have d2 : q2 ∣ q := (Nat.Coprime.dvd_of_dvd_mul_left c2.symm ⟨p, by rw [← e, Nat.mul_comm]⟩)
  have eq := Nat.dvd_antisymm d1 d2
  subst eq
  exact ⟨Nat.eq_of_mul_eq_mul_right hq e, rfl⟩
theorem cross {p q p2 q2 a b : Nat} (hb : 0 < b) (e : q2 * a = p2 * b) (h : q * a ≤ p * b) : p2 * q ≤ p * q2 := by
  refine Nat.le_of_mul_le_mul_right ?_ hb
  calc p2 * q * b = (p2 * b) * q := by rw [Nat.mul_assoc, Nat.mul_comm q b, ← Nat.mul_assoc]
    _ = (q2 * a) * q := by rw [← e]
    _ = q2 * (q * a) := by rw [Nat.mul_assoc, Nat.mul_comm a q]
    _ ≤ q2 * (p * b) := Nat.mul_le_mul_left _ h
    _ = p * q2 * b := by rw [← Nat.mul_assoc, Nat.mul_comm q2 p]
theorem Ft.ge {p q p2 q2 : Nat} {V W : List (Int × Int)} (h : Ft rs ss p q V) (g : Fr rs ss p2 q2 W) : p2 * q ≤ p * q2 := by
  rcases g.le1 with ⟨rfl, rfl⟩ | ⟨_, _, _, hs⟩
  · rw [Nat.zero_mul]; exact Nat.zero_le _
  · exact cross hs g.eq (h.le W g.sb)
theorem Ft.one {p q p2 q2 : Nat} {V W : List (Int × Int)} (h : Ft rs ss p q V) (g : Ft rs ss p2 q2 W) : p = p2 ∧ q = q2 := by
  have h1 := h.ge g.fr
  have h2 := g.ge h.fr
  exact low_one h.fr.cop g.fr.cop h.fr.pos g.fr.pos (Nat.le_antisymm h2 h1)
/-! the law's own way -/
def lf (rs ss : List (Int × Int)) : List (List (Int × Int)) → Nat × Nat → Option (Nat × Nat)
  | [], f => some f
  | V :: Vs, f => if 0 < rs.countP (ard V) ∧ ss.countP (ard V) = 0 then none else
      lf rs ss Vs (if 0 < ss.countP (ard V) ∧ f.1 * ss.countP (ard V) < rs.countP (ard V) * f.2 then (rs.countP (ard V), ss.countP (ard V)) else f)
theorem lf_none : ∀ {Vs : List (List (Int × Int))} {f : Nat × Nat}, lf rs ss Vs f = none ↔ ∃ V ∈ Vs, 0 < rs.countP (ard V) ∧ ss.countP (ard V) = 0
  | [], f => by
    unfold lf
    exact ⟨fun h => (by cases h), fun ⟨_, h, _⟩ => (List.not_mem_nil h).elim⟩
  | V :: Vs, f => by
    unfold lf
    by_cases c : 0 < rs.countP (ard V) ∧ ss.countP (ard V) = 0
    · rw [if_pos c]
      exact ⟨fun _ => ⟨V, List.mem_cons_self, c⟩, fun _ => rfl⟩
    · rw [if_neg c, lf_none]
      constructor
      · rintro ⟨W, h1, h2⟩; exact ⟨W, List.mem_cons_of_mem _ h1, h2⟩
      · rintro ⟨W, h1, h2⟩
        rcases List.mem_cons.mp h1 with rfl | h1
        · exact absurd h2 c
        · exact ⟨W, h1, h2⟩
theorem lf_some : ∀ {Vs : List (List (Int × Int))} {f g : Nat × Nat}, 0 < f.2 → lf rs ss Vs f = some g →
    0 < g.2 ∧ f.1 * g.2 ≤ g.1 * f.2 ∧ (∀ V ∈ Vs, rs.countP (ard V) * g.2 ≤ g.1 * ss.countP (ard V)) ∧ (g = f ∨ ∃ V ∈ Vs, 0 < ss.countP (ard V) ∧ g = (rs.countP (ard V), ss.countP (ard V)))
  | [], f, g, hf, h => by
    cases h
    exact ⟨hf, Nat.le_refl _, fun _ z => (List.not_mem_nil z).elim, .inl rfl⟩
  | V :: Vs, f, g, hf, h => by
    unfold lf at h
    by_cases c : 0 < rs.countP (ard V) ∧ ss.countP (ard V) = 0
    · rw [if_pos c] at h; cases h
    rw [if_neg c] at h
    by_cases d : 0 < ss.countP (ard V) ∧ f.1 * ss.countP (ard V) < rs.countP (ard V) * f.2
    · rw [if_pos d] at h
      obtain ⟨h1, h2, h3, h4⟩ := lf_some d.1 h
      dsimp only at h2
      refine ⟨h1, ?_, fun W hW => ?_, ?_⟩
      · refine Nat.le_of_mul_le_mul_right (c := ss.countP (ard V)) ?_ d.1
        calc f.1 * g.2 * ss.countP (ard V) = f.1 * ss.countP (ard V) * g.2 := by rw [Nat.mul_assoc, Nat.mul_comm g.2, ← Nat.mul_assoc]
          _ ≤ rs.countP (ard V) * f.2 * g.2 := Nat.mul_le_mul_right _ (Nat.le_of_lt d.2)
          _ = rs.countP (ard V) * g.2 * f.2 := by rw [Nat.mul_assoc, Nat.mul_comm f.2, ← Nat.mul_assoc]
          _ ≤ g.1 * ss.countP (ard V) * f.2 := Nat.mul_le_mul_right _ h2
          _ = g.1 * f.2 * ss.countP (ard V) := by rw [Nat.mul_assoc, Nat.mul_comm (ss.countP _) f.2, ← Nat.mul_assoc]
      · rcases List.mem_cons.mp hW with rfl | hW
        · exact h2
        · exact h3 W hW
      · right
        rcases h4 with h4 | ⟨W, hW, h4⟩
        · exact ⟨V, List.mem_cons_self, d.1, h4⟩
        · exact ⟨W, List.mem_cons_of_mem _ hW, h4⟩
    · rw [if_neg d] at h
      obtain ⟨h1, h2, h3, h4⟩ := lf_some hf h
      refine ⟨h1, h2, fun W hW => ?_, ?_⟩
      · rcases List.mem_cons.mp hW with rfl | hW
        · by_cases s0 : ss.countP (ard W) = 0
          · have : rs.countP (ard W) = 0 := by
              by_cases r0 : 0 < rs.countP (ard W)
              · exact absurd ⟨r0, s0⟩ c
              · omega
            rw [this, Nat.zero_mul]; exact Nat.zero_le _
          · have d2 : rs.countP (ard W) * f.2 ≤ f.1 * ss.countP (ard W) := by
              by_cases z : f.1 * ss.countP (ard W) < rs.countP (ard W) * f.2
              · exact absurd ⟨Nat.pos_of_ne_zero s0, z⟩ d
              · omega
            refine Nat.le_of_mul_le_mul_right (c := f.2) ?_ hf
            calc rs.countP (ard W) * g.2 * f.2 = rs.countP (ard W) * f.2 * g.2 := by rw [Nat.mul_assoc, Nat.mul_comm g.2, ← Nat.mul_assoc]
              _ ≤ f.1 * ss.countP (ard W) * g.2 := Nat.mul_le_mul_right _ d2
              _ = f.1 * g.2 * ss.countP (ard W) := by rw [Nat.mul_assoc, Nat.mul_comm (ss.countP _) g.2, ← Nat.mul_assoc]
              _ ≤ g.1 * f.2 * ss.countP (ard W) := Nat.mul_le_mul_right _ h2
              _ = g.1 * ss.countP (ard W) * f.2 := by rw [Nat.mul_assoc, Nat.mul_comm f.2, ← Nat.mul_assoc]
        · exact h3 W hW
      · rcases h4 with h4 | ⟨W, hW, h4⟩
        · exact .inl h4
        · exact .inr ⟨W, List.mem_cons_of_mem _ hW, h4⟩
/-- every set stands in the law's list -/
theorem subs_all {D V : List (Int × Int)} (hD : ∀ v, v ∈ D ↔ v ∈ rs) (hV : Sb rs V) : ∃ W ∈ subs D [[]], ∀ r, ard V r = ard W r := by
  refine ⟨[] ++ D.filter (fun d => decide (d ∈ V)), subs_mem (List.mem_singleton.mpr rfl) _, fun r => ard_congr (fun v => ?_) r⟩
  rw [List.nil_append, List.mem_filter, decide_eq_true_eq]
  exact ⟨fun h => ⟨(hD v).mpr (hV v h), h⟩, fun h => h.2⟩
theorem subs_sb {D W : List (Int × Int)} (hD : ∀ v, v ∈ D ↔ v ∈ rs) (h : W ∈ subs D [[]]) : Sb rs W := fun v hv => by
  obtain ⟨l, hl, h2⟩ := subs_in h
  rw [List.mem_singleton.mp hl] at h2
  rcases h2 v hv with z | z
  · exact (List.not_mem_nil z).elim
  · exact (hD v).mp z
/-- what the law's own way finds is the factor -/
theorem lf_due {D : List (Int × Int)} (hD : ∀ v, v ∈ D ↔ v ∈ rs) {p q : Nat} {V : List (Int × Int)} (h : Ft rs ss p q V) : ∃ g, lf rs ss (subs D [[]]) (0, 1) = some g ∧ p * g.2 = q * g.1 := by
  cases e : lf rs ss (subs D [[]]) (0, 1) with
  | none =>
    obtain ⟨W, hW, h1, h2⟩ := lf_none.mp e
    have := h.le W (subs_sb hD hW)
    rw [h2, Nat.mul_zero] at this
    have := Nat.mul_pos h.fr.pos h1
    omega
  | some g =>
    obtain ⟨h1, _, h3, h4⟩ := lf_some Nat.one_pos e
    refine ⟨g, rfl, Nat.le_antisymm ?_ ?_⟩
    · obtain ⟨W, hW, ew⟩ := subs_all hD h.fr.sb
      have k := h3 W hW
      have er : rs.countP (ard V) = rs.countP (ard W) := by congr 1; funext r; exact ew r
      have es : ss.countP (ard V) = ss.countP (ard W) := by congr 1; funext r; exact ew r
      rw [← er, ← es] at k
      rcases h.fr.le1 with ⟨rfl, rfl⟩ | ⟨_, _, _, hs⟩
      · rw [Nat.zero_mul]; exact Nat.zero_le _
      · have := cross (p := g.1) (q := g.2) hs h.fr.eq (by rw [Nat.mul_comm]; exact k)
        rw [Nat.mul_comm q]
        exact this
    · rcases h4 with rfl | ⟨W, hW, _, rfl⟩
      · rw [Nat.mul_zero]; exact Nat.zero_le _
      · exact h.le W (subs_sb hD hW)
theorem lf_bad {D V : List (Int × Int)} (hD : ∀ v, v ∈ D ↔ v ∈ rs) (hV : Sb rs V) (h1 : 0 < rs.countP (ard V)) (h2 : ss.countP (ard V) = 0) : lf rs ss (subs D [[]]) (0, 1) = none := by
  obtain ⟨W, hW, ew⟩ := subs_all hD hV
  have er : rs.countP (ard V) = rs.countP (ard W) := by congr 1; funext r; exact ew r
  have es : ss.countP (ard V) = ss.countP (ard W) := by congr 1; funext r; exact ew r
  exact lf_none.mpr ⟨W, hW, by rw [← er]; exact h1, by rw [← es]; exact h2⟩
/-! how many fractions are still greater -/
def pairs (m n : Nat) : List (Nat × Nat) := (List.range (m + 1)).flatMap fun x => (List.range (n + 1)).map fun y => (x, y)
theorem mem_pairs {m n x y : Nat} (h1 : x ≤ m) (h2 : y ≤ n) : (x, y) ∈ pairs m n :=
  List.mem_flatMap.mpr ⟨x, List.mem_range.mpr (by omega), List.mem_map.mpr ⟨y, List.mem_range.mpr (by omega), rfl⟩⟩
def mu (rs ss : List (Int × Int)) (p q : Nat) : Nat := (pairs rs.length ss.length).countP fun e => decide (p * e.2 < e.1 * q)
theorem cnt_lt {α : Type} {P Q : α → Bool} : ∀ {l : List α}, (∀ x ∈ l, P x = true → Q x = true) → (∃ x ∈ l, Q x = true ∧ P x = false) → l.countP P < l.countP Q
  | [], _, ⟨_, h, _⟩ => (List.not_mem_nil h).elim
  | a :: l, h, ⟨x, hx, h1, h2⟩ => by
    rw [List.countP_cons, List.countP_cons]
    have le : l.countP P ≤ l.countP Q := List.countP_mono_left fun y hy => h y (List.mem_cons_of_mem _ hy)
    rcases List.mem_cons.mp hx with rfl | hx
    · rw [h1, h2]
      simp
      omega
    · have lt := cnt_lt (fun y hy => h y (List.mem_cons_of_mem _ hy)) ⟨x, hx, h1, h2⟩
      have := h a List.mem_cons_self
      cases hp : P a with
      | true => rw [this hp]; omega
      | false =>
        have e : (if false = true then 1 else 0) = 0 := rfl
        rw [e]
        omega
theorem mu_lt {p q p2 q2 : Nat} {V W : List (Int × Int)} (h : Fr rs ss p q V) (g : Fr rs ss p2 q2 W) (hs : 0 < ss.countP (ard W)) (lt : p * ss.countP (ard W) < q * rs.countP (ard W)) : mu rs ss p2 q2 < mu rs ss p q := by
  have hq := h.pos
  have hq2 := g.pos
  have e := g.eq
  have l2 : p * q2 < p2 * q := by
    refine Nat.lt_of_mul_lt_mul_right (a := ss.countP (ard W)) ?_
    calc p * q2 * ss.countP (ard W) = (p * ss.countP (ard W)) * q2 := by rw [Nat.mul_assoc, Nat.mul_comm q2, ← Nat.mul_assoc]
      _ < (q * rs.countP (ard W)) * q2 := Nat.mul_lt_mul_of_pos_right lt hq2
      _ = q * (q2 * rs.countP (ard W)) := by rw [Nat.mul_assoc, Nat.mul_comm (rs.countP _) q2]
      _ = q * (p2 * ss.countP (ard W)) := by rw [e]
      _ = p2 * q * ss.countP (ard W) := by rw [← Nat.mul_assoc, Nat.mul_comm q p2]
  refine cnt_lt (fun x _ hx => ?_) ⟨(rs.countP (ard W), ss.countP (ard W)), mem_pairs List.countP_le_length List.countP_le_length, ?_, ?_⟩
  · have hx := of_decide_eq_true hx
    refine decide_eq_true ?_
    refine Nat.lt_of_mul_lt_mul_right (a := q2) ?_
    calc p * x.2 * q2 = (p * q2) * x.2 := by rw [Nat.mul_assoc, Nat.mul_comm x.2, ← Nat.mul_assoc]
      _ ≤ (p2 * q) * x.2 := Nat.mul_le_mul_right _ (Nat.le_of_lt l2)
      _ = (p2 * x.2) * q := by rw [Nat.mul_assoc, Nat.mul_comm q, ← Nat.mul_assoc]
      _ < (x.1 * q2) * q := Nat.mul_lt_mul_of_pos_right hx hq
      _ = x.1 * q * q2 := by rw [Nat.mul_assoc, Nat.mul_comm q2 q, ← Nat.mul_assoc]
  · refine decide_eq_true ?_
    show p * ss.countP (ard W) < rs.countP (ard W) * q
    rw [Nat.mul_comm (rs.countP _)]
    exact lt
  · refine decide_eq_false ?_
    show ¬ p2 * ss.countP (ard W) < rs.countP (ard W) * q2
    rw [← e, Nat.mul_comm (rs.countP _)]
    exact Nat.lt_irrefl _
end
end K65

set_option pp.maxSteps 900
/-! the least factor -/
namespace F5F
open PySem PySem.Spec PyProof.Rows L2 KA KD PH PM RM RN K52b K55 K55b K57 P5I P5P MM XE
open XT hiding pairs_get
open P5N (Mt nm)
abbrev sRL : Stmt := topS 26
abbrev sLS : Stmt := topS 25
abbrev sF1 : Stmt := topS 24
theorem scRL : FnScope ["ranges"] ["ranges"] (defScope sRL) := ⟨rfl, rfl, rfl, by decide +kernel, rfl, by decide +kernel, by decide +kernel⟩
theorem scLS : FnScope ["first", "second", "p", "q", "table", "more", "worn", "allowed"] ["first", "second"] (defScope sLS) := ⟨rfl, rfl, rfl, by decide +kernel, rfl, by decide +kernel, by decide +kernel⟩
theorem scF1 : FnScope ["first", "second"] ["first", "second"] (defScope sF1) := ⟨rfl, rfl, rfl, by decide +kernel, rfl, by decide +kernel, by decide +kernel⟩
theorem amt_ones {V_ : List (Int × Int)} (hV : ∀ v ∈ V_, v.1 < v.2) (lo hi : Int) : amt (ones V_) lo hi = if ard V_ (lo, hi) = true then 1 else 0 := by
  have gd : Good (ones V_) := fun e he => by
    obtain ⟨v, hv, rfl⟩ := List.mem_map.mp he
    exact ⟨hV v hv, show (0 : Int) ≤ 1 by decide⟩
  have h0 := amt_nonneg gd lo hi
  have h1 : ¬ 1 < amt (ones V_) lo hi := fun z => by
    obtain ⟨e, he, _, h⟩ := (amt_lt _ _ _ (by decide)).mp z
    obtain ⟨v, hv, rfl⟩ := List.mem_map.mp he
    exact absurd h (Int.lt_irrefl 1)
  by_cases h : ard V_ (lo, hi) = true
  · rw [if_pos h]
    have : 0 < amt (ones V_) lo hi := by
      obtain ⟨v, hv, c⟩ := List.any_eq_true.mp h
      have c := hasB_iff.mp c
      refine (amt_lt _ _ _ (Int.le_refl 0)).mpr ⟨(v.1, v.2, 1), List.mem_map.mpr ⟨v, hv, rfl⟩, c, show (0 : Int) < 1 by decide⟩
    omega
  · rw [if_neg h]
    have : ¬ 0 < amt (ones V_) lo hi := fun z => by
      obtain ⟨e, he, c, _⟩ := (amt_lt _ _ _ (Int.le_refl 0)).mp z
      obtain ⟨v, hv, rfl⟩ := List.mem_map.mp he
      exact h (List.any_eq_true.mpr ⟨v, hv, hasB_iff.mpr c⟩)
    omega
theorem wear_ones {V_ : List (Int × Int)} (hV : ∀ v ∈ V_, v.1 < v.2) : ∀ rs : List (Int × Int), wear (ones V_) rs = (rs.countP (ard V_) : Nat)
  | [] => rfl
  | r :: rs => by
    have ih := wear_ones hV rs
    unfold wear at ih ⊢
    rw [List.map_cons, List.sum_cons, ih, amt_ones hV, List.countP_cons]
    split <;> omega
theorem tab_ins {H : Hp} {C x : Addr} {T : List Ent} (h : TabAt H C x T) : ∃ dx fs, H x = some (.ins C dx fs) := by
  obtain ⟨dx, _, _, h1, _⟩ := h
  exact ⟨dx, _, h1⟩
theorem tw_sq {K : PySem.W.Frag} {H : Hp} {C x a : Addr} {T : List Ent} {xs : List V} {rs : List (Int × Int)} {Q : VK} {E : XK} (tab : TabAt H C x T) (le : T.length ≤ 500) (h : Sq K H a xs) (pa : PairsAt H xs rs) (l : rs.length ≤ 500) (q : ∀ H', Same H H' → Q (.int (wear T rs)) H') :
    spTWl K C [.ref x, .ref a] H Q E ∨ spTWt K C [.ref x, .ref a] H Q E := h.elim (fun h => .inl ⟨x, a, T, xs, rs, rfl, tab, le, h, pa, Nat.le_trans l (by decide), q⟩) (fun h => .inr ⟨x, a, T, xs, rs, rfl, tab, le, h, pa, Nat.le_trans l (by decide), q⟩)
theorem pairs_rep {H : Hp} {xs : List V} {rs : List (Int × Int)} (h : PairsAt H xs rs) : ∀ n : Nat, PairsAt H (List.replicate n xs).flatten (K65.rep n rs)
  | 0 => trivial
  | n + 1 => by
    rw [K65.rep_succ, List.replicate_succ, List.flatten_cons]
    exact h.append (pairs_rep h n)
/-- the table of the last set, or none -/
def TbO (H : Hp) (CT : Addr) (p : Nat) (V_ : List (Int × Int)) (o : V) : Prop := (p = 0 ∧ o = .non) ∨ (0 < p ∧ ∃ t, o = .ref t ∧ TabAt H CT t (ones V_) ∧ V_.Nodup)
theorem TbO.same {H H' : Hp} {CT : Addr} {p : Nat} {V_ : List (Int × Int)} {o : V} (h : TbO H CT p V_ o) (s : Same H H') : TbO H' CT p V_ o :=
  h.imp id fun ⟨a, t, b, c, d⟩ => ⟨a, t, b, c.same s, d⟩
/-- two lists of ranges -/
def Two (K : PySem.W.Frag) (H : Hp) (vs : List V) (rs ss : List (Int × Int)) : Prop := ∃ (a b : Addr) (xs ys : List V), vs = [.ref a, .ref b] ∧ Sq K H a xs ∧ PairsAt H xs rs ∧ Sq K H b ys ∧ PairsAt H ys ss ∧ rs.length ≤ 12 ∧ ss.length ≤ 12 ∧ ∀ r ∈ rs, r.1 < r.2
/-- there is no factor -/
def Bad (CN CT : Addr) (rs ss : List (Int × Int)) (H : Hp) (E : XK) : Prop := ∀ V_, K65.Sb rs V_ → V_.Nodup → 0 < rs.countP (ard V_) → ss.countP (ard V_) = 0 → ∀ H' dx t, Same H H' → TabAt H' CT t (ones V_) → H' dx = none → E (.ref CN) (some dx) (upd H' dx (.xd [(("table" : Str), .ref t)]))
theorem reps_len {p q : Nat} {rs ss V_ : List (Int × Int)} (h : K65.Fr rs ss p q V_) (l1 : rs.length ≤ 12) (l2 : ss.length ≤ 12) : CR.Fw (K65.rep q rs) ∧ (K65.rep p ss).length ≤ 500 ∧ p ≤ 12 ∧ q ≤ 13 := by
  have h1 := h.le
  have a1 : q * rs.length ≤ 13 * 12 := Nat.mul_le_mul (by omega) l1
  have a2 : p * ss.length ≤ 12 * 12 := Nat.mul_le_mul (by omega) l2
  refine ⟨⟨?_, rs, by omega, fun r hr => K65.rep_mem hr⟩, ?_, by omega, by omega⟩
  · rw [K65.rep_len]; omega
  · rw [K65.rep_len]; omega
section
variable {P : Program} {w : World} {K : PySem.W.Frag} {mg : Str → Option Value} {base : Heap}
def spRL (K : PySem.W.Frag) : Sp := fun vs H Q _ => ∃ (a : Addr) (xs : List V), vs = [.ref a] ∧ Sq K H a xs ∧ xs.length ≤ 12 ∧ Q .non H
theorem ok_RL {f : Addr} {fd : FuncData} {k : Nat} (F : Fun K "_refuse_large" "_refuse_large" sRL f fd) (mlen : mg "len" = none) (gM : ∃ u, mg "MOST_RANGES" = some u ∧ RelV (.int 12) u) : FnOk P w K mg base CX0 (k + 1) f fd ["ranges"] (spRL K) := by
  refine F.ok scRL (fun vs H Q E h => ?_) (fun cdv A outer s H vs Q E hr h => ?_)
  · obtain ⟨a, xs, rfl, _⟩ := h
    rfl
  · obtain ⟨a, xs, rfl, hA, hl, hq⟩ := h
    refine ⟨_, (pss_one (ps_if (pt_cmpR op_gt (pe_callB call_len_seq (by rfl) mlen PySem.boot_len (pa_cons (pv 0) pa_nil)) (C8.pe_gc (v := .int 12) (by rfl) gM) (nomark _)) pss_never pss_nil)), ?_⟩
    have hl2 : ¬ ((xs.length : Nat) : Int) > 12 := by omega
    refine ⟨.ref a, rfl, a, xs, rfl, hA, _, 12, rfl, rfl, _, rfl, ?_⟩
    rw [decide_eq_false (show ¬ (12 : Int) < (xs.length : Int) by omega)]
    exact iteF hq
def spLS (K : PySem.W.Frag) (CN CT : Addr) : Sp := fun vs H Q E => ∃ rs ss, Two K H vs rs ss ∧ (∀ p q V_, K65.Ft rs ss p q V_ → ∀ H' t f c o (ps : List Int), Same H H' → H' t = some (.tup [.ref f, .ref c, o]) → H' f = some (.tup [.int ((p : Nat) : Int), .int ((q : Nat) : Int)]) → H' c = some (.lst (ps.map V.int)) → Mt (K65.rep q rs) (K65.rep p ss) ps → TbO H' CT p V_ o → Q (.ref t) H') ∧ Bad CN CT rs ss H E
/-- list(xs), as a reading -/
def teL (K : PySem.W.Frag) (i : Nat) : TE := tCB (fun xs H Q => ∃ p ys, xs = [.ref p] ∧ (SqL K H p ys ∨ SqT K H p ys) ∧ ∀ l, H l = none → Q (.ref l) (upd H l (.lst ys))) (tCons (tVar i) tNil)
theorem ok_LS {f : Addr} {fd : FuncData} {C CT CN fUW fIN : Addr} {dUW dIN : FuncData} {fRL : Addr} {dRL : FuncData} {fMM : Addr} {dMM : FuncData} {k : Nat} (F : Fun K "_least" "_least" sLS f fd) (GRL : FnOk P w K mg base CX0 (k + 1) fRL dRL ["ranges"] (spRL K)) (gRL : mg "_refuse_large" = some (.ref fRL)) (kRL : PySem.W.keepIn K (.ref fRL) = true) (bRL : Binds K dRL ["ranges"] []) (gX : mg "More" = some (.ref C)) (xf : XS.XfA K "table" C) (exm : PySem.W.exmOne K (.ref C) (.ref C) = some true) (GMM : FnOk P w K mg base (CX P w) (k + 7) fMM dMM ["first", "second"] (spMM K C CT)) (gMM : mg "matching" = some (.ref fMM)) (kMM : PySem.W.keepIn K (.ref fMM) = true) (bMM : Binds K dMM ["first", "second"] []) (tbl : Tbl K CT) (mUW : Meth K CT "wear" fUW) (GUW : FnOk P w K mg base CX0 (k + 3) fUW dUW ["self", "ranges"] (fun vs H Q E => spTWl K CT vs H Q E ∨ spTWt K CT vs H Q E)) (bUW : Binds K dUW ["self", "ranges"] [])
  (TN : ErrC K CN fIN "table") (gN : mg "NoFactor" = some (.ref CN)) (GIN : FnOk P w K mg base CX0 1 fIN dIN ["self", "table"] (XS.spInit CN "table")) (bIN : Binds K dIN ["self", "table"] []) (mli : mg "list" = none) (mgcd : mg "gcd" = some (.builtin "math.gcd")) : FnOk P w K mg base (CX P w) (k + 9) f fd ["first", "second"] (spLS K CN CT) := by
  refine F.okX scLS (fun vs H Q E h => ?_) (fun cdv A outer s H vs Q E hr h => ?_)
  · obtain ⟨rs, ss, ⟨a, b, xs, ys, rfl, _⟩, _⟩ := h
    rfl
  · obtain ⟨rs, ss, ⟨a, b, xs, ys, rfl, hA, pa, hB, pb, la, lb, lt⟩, hq, hE⟩ := h
    refine ⟨_, (pss_cons (ps_expr (pe_call (GRL.mono (show k + 1 ≤ k + 8 by omega)) hr (by rfl) gRL kRL bRL .nil pass0 (pa_cons (pv 0) pa_nil)))
      (pss_cons (ps_expr (pe_call (GRL.mono (show k + 1 ≤ k + 8 by omega)) hr (by rfl) gRL kRL bRL .nil pass0 (pa_cons (pv 1) pa_nil)))
      (pss_cons (ps_asg (pe_tup (pa_cons pe_int (pa_cons pe_int (pa_cons pe_non pa_nil)))) (pg_tup rfl (pgs_cons (pg_name (i := 2) scLS.nd rfl (.inl rfl)) (pgs_cons (pg_name (i := 3) scLS.nd rfl (.inl rfl)) (pgs_cons (pg_name (i := 4) scLS.nd rfl (.inl rfl)) pgs_nil)))))
      (pss_one (ps_while (passes_of rfl) (pt_val pe_bl) (pss_cons (ps_try_as (i := 5) (tb := fun W => tRet (tTup (tCons (tTup (tCons (tVar 2) (tCons (tVar 3) tNil))) (tCons (tCallS (spMM K C CT) (WE W) (tCons (tOp rRep (teL K 0) (tVar 3)) (tCons (tOp rRep (teL K 1) (tVar 2)) tNil))) (tCons (tVar 4) tNil))))) (ts := fun a cls d => tAsg (tXf a cls d C "table" (tVar 5)) (gName 4)) (Wout := fun cls d _ H => E cls d H) rfl rfl scLS.nd rfl rfl ⟨rfl, by decide, Or.inl gX⟩ (takes_of rfl rfl rfl rfl)
        (fun W pn xe tk _ => pss_one (ps_ret (by exact (pe_tup (pa_cons (pe_tup (pa_cons (pv 2) (pa_cons (pv 3) pa_nil))) (pa_cons (pe_callS (GMM.mono (show k + 7 ≤ k + 8 by omega)) hr rfl gMM kMM bMM (fun σ => passAt tk σ) (by exact (pa_cons (pe_op op_rep (pe_callTy call_list_of (by rfl) mli (by decide +kernel) (pa_cons (pv 0) pa_nil)) (pv 3)) (pa_cons (pe_op op_rep (pe_callTy call_list_of (by rfl) mli (by decide +kernel) (pa_cons (pv 1) pa_nil)) (pv 2)) pa_nil)))) (pa_cons (pv 4) pa_nil)))))))
        (fun a oe cls d pn hz hf => pss_one (ps_set (i := 4) scLS.nd rfl (Or.inl rfl) (by exact (pe_xf xf.1 xf.2 hz hf (pv 5))))))
      (pss_cons (ps_par (i := 6) (j := 7) (by rfl) scLS.nd rfl rfl (by decide) rfl rfl (pa_cons (pe_meth (pv 4) tbl.cl mUW (GUW.mono (show k + 3 ≤ k + 8 by omega)) hr bUW .nil pass0 (pa_cons (pv 0) pa_nil)) (pa_cons (pe_meth (pv 4) tbl.cl mUW (GUW.mono (show k + 3 ≤ k + 8 by omega)) hr bUW .nil pass0 (pa_cons (pv 1) pa_nil)) pa_nil)) (by rfl))
      (pss_cons (ps_if (pt_cmpR op_eq (pv 7) pe_int (nomark _)) (pss_one (ps_raise rfl (takes_of rfl rfl rfl rfl) (pmk_oex TN.oex TN.iC TN.tI GIN (hr.mono (show 1 + 1 ≤ k + 8 by omega)) bIN .nil pass0 (by rfl) gN (pa_cons (pv 4) pa_nil)))) pss_nil)
      (pss_one (ps_par (i := 2) (j := 3) (by rfl) scLS.nd rfl rfl (by decide) rfl rfl (pa_cons (pe_op op_fdiv (pv 6) (pe_callBfun cr_gcd (by rfl) mgcd (pa_cons (pv 6) (pa_cons (pv 7) pa_nil)))) (pa_cons (pe_op op_fdiv (pv 7) (pe_callBfun cr_gcd (by rfl) mgcd (pa_cons (pv 6) (pa_cons (pv 7) pa_nil)))) pa_nil)) (by rfl))))))))))), ?_⟩
    have l12a : xs.length ≤ 12 := by rw [pa.length]; exact la
    have l12b : ys.length ≤ 12 := by rw [pb.length]; exact lb
    refine ⟨.ref a, rfl, a, xs, rfl, hA, l12a, .ref b, rfl, b, ys, rfl, hB, l12b, by show 3 ≤ sizeLine; decide, fun t0 nt0 => ⟨t0, _, rfl, SqT.of upd_same, rfl, .int 0, [.int 1, .non], rfl, .int 1, [.non], rfl, .non, [], rfl, rfl, ?_⟩⟩
    have s0 := same_new (o := .tup [V.int 0, V.int 1, V.non]) nt0
    generalize upd H t0 (.tup [V.int 0, V.int 1, V.non]) = H0 at s0 ⊢
    refine ⟨fun m σ Hz => ∃ (p q : Nat) (V_ : List (Int × Int)) (o : V), m = K65.mu rs ss p q ∧ Same H Hz ∧ K65.Fr rs ss p q V_ ∧ TbO Hz CT p V_ o ∧ ∃ r5 r6 r7 : Option V, σ = [some (.ref a), some (.ref b), some (.int ((p : Nat) : Int)), some (.int ((q : Nat) : Int)), some (o), r5, r6, r7], ⟨_, 0, 1, [], .non, rfl, s0, .zero, .inl ⟨rfl, rfl⟩, _, _, _, rfl⟩, ?_⟩
    rintro m σ Hz ⟨p, q, V_, o, rfl, sz, fr, tbo, r5, r6, r7, rfl⟩
    have pz := fr.pos
    have hA1 : Sq K Hz a xs := hA.same sz
    have hB1 : Sq K Hz b ys := hB.same sz
    have pa1 := pa.same sz
    have pb1 := pb.same sz
    obtain ⟨r60, r500, p12, q13⟩ := reps_len fr la lb
    refine ⟨true, rfl, ?_⟩
    refine iteT ⟨_, fun _ _ z => z, ?_⟩
    refine ⟨.int ((p : Nat) : Int), rfl, .int ((q : Nat) : Int), rfl, by show 2 ≤ sizeLine; decide, fun f1 nf1 => ?_⟩
    have s1 := same_new (o := .tup [.int ((p : Nat) : Int), .int ((q : Nat) : Int)]) nf1
    have ef1 := upd_same (H := Hz) (a := f1) (o := .tup [.int ((p : Nat) : Int), .int ((q : Nat) : Int)])
    generalize upd Hz f1 (.tup [.int ((p : Nat) : Int), .int ((q : Nat) : Int)]) = H1 at s1 ef1 ⊢
    refine ⟨.ref a, rfl, a, xs, rfl, hA1.same s1, fun l1 nl1 => ?_⟩
    have s2 := same_new (o := .lst xs) nl1
    have el1 := upd_same (H := H1) (a := l1) (o := .lst xs)
    generalize upd H1 l1 (.lst xs) = H2 at s2 el1 ⊢
    have z63 : ∀ n : Nat, n ≤ 13 → -(2 ^ 63) ≤ ((n : Nat) : Int) ∧ ((n : Nat) : Int) < 2 ^ 63 := fun n h => ⟨by omega, by omega⟩
    have lx : xs.length * q ≤ sizeLine := Nat.le_trans (Nat.mul_le_mul l12a q13) (by decide)
    have ly : ys.length * p ≤ sizeLine := Nat.le_trans (Nat.mul_le_mul l12b p12) (by decide)
    refine ⟨.int ((q : Nat) : Int), rfl, l1, (q : Int), xs, rfl, rfl, el1, (z63 q q13).1, (z63 q q13).2, lx, fun p1 np1 => ?_⟩
    have s3 := same_new (o := .lst (List.replicate ((q : Nat) : Int).toNat xs).flatten) np1
    have ep1 := upd_same (H := H2) (a := p1) (o := .lst (List.replicate ((q : Nat) : Int).toNat xs).flatten)
    generalize upd H2 p1 (.lst (List.replicate ((q : Nat) : Int).toNat xs).flatten) = H3 at s3 ep1 ⊢
    have s13 := s1.trans (s2.trans s3)
    refine ⟨.ref b, rfl, b, ys, rfl, hB1.same s13, fun l2 nl2 => ?_⟩
    have s4 := same_new (o := .lst ys) nl2
    have el2 := upd_same (H := H3) (a := l2) (o := .lst ys)
    generalize upd H3 l2 (.lst ys) = H4 at s4 el2 ⊢
    refine ⟨.int ((p : Nat) : Int), rfl, l2, (p : Int), ys, rfl, rfl, el2, (z63 p (by omega)).1, (z63 p (by omega)).2, ly, fun p2 np2 => ?_⟩
    have s5 := same_new (o := .lst (List.replicate ((p : Nat) : Int).toNat ys).flatten) np2
    have ep2 := upd_same (H := H4) (a := p2) (o := .lst (List.replicate ((p : Nat) : Int).toNat ys).flatten)
    generalize upd H4 p2 (.lst (List.replicate ((p : Nat) : Int).toNat ys).flatten) = H5 at s5 ep2 ⊢
    have s15 := s13.trans (s4.trans s5)
    have ep15 := (s4.trans s5) _ _ ep1
    rw [Int.toNat_natCast] at ep15 ep2
    refine ⟨p1, p2, _, _, K65.rep q rs, K65.rep p ss, rfl, .inl (SqL.of ep15), pairs_rep (pa1.same s15) q, .inl (SqL.of ep2), pairs_rep (pb1.same s15) p, r60, r500, fun hn H6 c ps s6 nc hc mt => ?_, fun hn H6 dx t W_ s6 tab ndx cr => ⟨true, exm, fun _ ae nae => ?_, fun z => nomatch z⟩⟩
    · -- the factor
      have ft : K65.Ft rs ss p q V_ := ⟨fr, K65.all_le pz (nmB_iff.mp hn)⟩
      refine ⟨o, rfl, by show 3 ≤ sizeLine; decide, fun t nt => ?_⟩
      have st := same_new (o := .tup [.ref f1, .ref c, o]) nt
      have s16 := s15.trans s6
      exact hq p q V_ ft _ t f1 c o ps (sz.trans (s16.trans st)) upd_same (st _ _ ((s2.trans (s3.trans (s4.trans (s5.trans s6)))) _ _ ef1)) (st _ _ hc) mt (tbo.same (s16.trans st))
    · -- a table
      have s7 := same_new (o := .xd [(("table" : Str), .ref t)]) ndx
      have hdx := upd_same (H := H6) (a := dx) (o := .xd [(("table" : Str), .ref t)])
      refine ⟨.ref ae, rfl, rfl, rfl, dx, _, .ref t, rfl, hdx, rfl, ?_⟩
      generalize upd H6 dx (.xd [(("table" : Str), .ref t)]) = H7 at s7 hdx ⊢
      have sbW : K65.Sb rs W_ := fun v hv => K65.rep_mem (cr.mem v hv)
      have ltW : ∀ v ∈ W_, v.1 < v.2 := fun v hv => lt v (sbW v hv)
      have tab7 := tab.same s7
      have cnt := cr.cnt
      rw [K65.rep_cnt, K65.rep_cnt] at cnt
      have lW : (ones W_).length ≤ 500 := by
        unfold ones
        rw [List.length_map]
        exact Nat.le_trans (K55c.sub_len cr.nd sbW) (by omega)
      have s17 := s15.trans (s6.trans s7)
      have sH7 := sz.trans s17
      obtain ⟨tx, tt, tys, htab, _⟩ := id tab7
      refine ⟨.ref t, rfl, t, tx, _, rfl, htab, rfl, .ref a, rfl, tw_sq tab7 lW (hA1.same s17) (pa1.same s17) (by omega) fun H8 s8 => ?_⟩
      have tab8 := tab7.same s8
      refine ⟨.ref t, rfl, t, tx, _, rfl, s8 _ _ htab, rfl, .ref b, rfl, tw_sq tab8 lW ((hB1.same s17).same s8) ((pb1.same s17).same s8) (by omega) fun H9 s9 => ?_⟩
      have tab9 := tab8.same s9
      have s79 := s8.trans s9
      have sH9 := sH7.trans s79
      rw [wear_ones ltW, wear_ones ltW]
      refine ⟨_, _, rfl, ?_⟩
      have hR : 0 < rs.countP (ard W_) := by
        rcases Nat.eq_zero_or_pos (rs.countP (ard W_)) with z | z
        · rw [z, Nat.mul_zero] at cnt; omega
        · exact z
      have bR : rs.countP (ard W_) ≤ rs.length := List.countP_le_length
      have bS : ss.countP (ard W_) ≤ ss.length := List.countP_le_length
      refine ⟨_, rfl, rfl, _, rfl, ?_⟩
      by_cases hS0 : ss.countP (ard W_) = 0
      · rw [decide_eq_true (show V.int ((ss.countP (ard W_) : Nat) : Int) = V.int 0 by rw [hS0]; rfl)]
        refine iteT ⟨.ref t, rfl, ?_⟩
        exact init_ends fun d2 nd2 => hE W_ sbW cr.nd hR hS0 H9 d2 t sH9 tab9 nd2
      · rw [decide_eq_false (show ¬ V.int ((ss.countP (ard W_) : Nat) : Int) = V.int 0 from fun z => hS0 (by have := V.int.inj z; omega))]
        have hS : 0 < ss.countP (ard W_) := Nat.pos_of_ne_zero hS0
        have fr2 : K65.Fr rs ss _ _ W_ := .of sbW hR hS
        have gp : 0 < Nat.gcd (rs.countP (ard W_)) (ss.countP (ard W_)) := Nat.gcd_pos_of_pos_left _ hR
        have gl : Nat.gcd (rs.countP (ard W_)) (ss.countP (ard W_)) ≤ 12 := Nat.le_trans (Nat.le_of_dvd hR (Nat.gcd_dvd_left _ _)) (by omega)
        have mlt := K65.mu_lt fr fr2 hS cnt
        have pp := fr2.le1
        have gc : ∀ x y : Nat, Nat.gcd ((x : Nat) : Int).natAbs ((y : Nat) : Int).natAbs = Nat.gcd x y := fun x y => by rw [Int.natAbs_natCast, Int.natAbs_natCast]
        have cd : (0 : Int) < ((Nat.gcd ((rs.countP (ard W_) : Nat) : Int).natAbs ((ss.countP (ard W_) : Nat) : Int).natAbs : Nat) : Int) ∧ ((Nat.gcd ((rs.countP (ard W_) : Nat) : Int).natAbs ((ss.countP (ard W_) : Nat) : Int).natAbs : Nat) : Int) < 1073741824 := by
          rw [gc]; omega
        have dv : ∀ x : Nat, ((x : Nat) : Int) / ((Nat.gcd ((rs.countP (ard W_) : Nat) : Int).natAbs ((ss.countP (ard W_) : Nat) : Int).natAbs : Nat) : Int) = ((x / Nat.gcd (rs.countP (ard W_)) (ss.countP (ard W_)) : Nat) : Int) := fun x => by
          rw [gc, ← Int.natCast_ediv]
        refine iteF ⟨_, rfl, _, rfl, _, rfl, _, _, rfl, _, _, rfl, rfl, cd, _, rfl, _, rfl, _, rfl, _, _, rfl, _, _, rfl, rfl, cd, _, _, rfl, _, mlt, _, _, W_, .ref t, rfl, sH9, fr2, .inr ⟨?_, t, rfl, tab9, cr.nd⟩, (by dsimp only; rw [dv, dv]; exact ⟨_, _, _, rfl⟩)⟩
        rcases pp with ⟨h1, _⟩ | ⟨h1, _⟩
        · exact absurd h1 (by have := Nat.div_pos (Nat.le_of_dvd hR (Nat.gcd_dvd_left (rs.countP (ard W_)) (ss.countP (ard W_)))) gp; omega)
        · exact h1
def spF1 (K : PySem.W.Frag) (CN CT : Addr) : Sp := fun vs H Q E => ∃ rs ss, Two K H vs rs ss ∧ (∀ p q V_, K65.Ft rs ss p q V_ → ∀ H' f, Same H H' → H' f = some (.tup [.int ((p : Nat) : Int), .int ((q : Nat) : Int)]) → Q (.ref f) H') ∧ Bad CN CT rs ss H E
theorem ok_F1 {f : Addr} {fd : FuncData} {fLS : Addr} {dLS : FuncData} {k : Nat} (F : Fun K "factor" "factor" sF1 f fd) {CN CT : Addr} (GLS : FnOk P w K mg base (CX P w) (k + 9) fLS dLS ["first", "second"] (spLS K CN CT)) (gLS : mg "_least" = some (.ref fLS)) (kLS : PySem.W.keepIn K (.ref fLS) = true) (bLS : Binds K dLS ["first", "second"] []) : FnOk P w K mg base (CX P w) (k + 10) f fd ["first", "second"] (spF1 K CN CT) := by
  refine F.okX scF1 (fun vs H Q E h => ?_) (fun cdv A outer s H vs Q E hr h => ?_)
  · obtain ⟨rs, ss, ⟨a, b, xs, ys, rfl, _⟩, _⟩ := h
    rfl
  · obtain ⟨rs, ss, ⟨a, b, xs, ys, rfl, h⟩, hq, hE⟩ := h
    refine ⟨_, (pss_one (ps_ret (pe_ix ix_tup (pe_callS (GLS.mono (show k + 9 ≤ k + 9 by omega)) hr (by rfl) gLS kLS bLS (fun σ => passAt (takes_of rfl rfl rfl rfl) σ) (pa_cons (pv 0) (pa_cons (pv 1) pa_nil))) pe_int (fun _ _ => rfl)))), ?_⟩
    refine ⟨.ref a, rfl, .ref b, rfl, rs, ss, ⟨a, b, xs, ys, rfl, h⟩, fun p q V_ ft H' t f c o ps s ht hf hc mt tb => ⟨t, _, _, .ref f, rfl, rfl, SqT.of ht, rfl, hq p q V_ ft H' f s hf⟩, hE⟩
end
end F5F

set_option pp.maxSteps 900
/-! k66: never_more, is_matching; lists of more than twelve ranges -/
namespace F6W
open PySem PySem.Spec PyProof.Rows L2 KA KD PH PM RM RN K52b K55 K55b K55d K57 DV P5I P5P MM XE F5F
open XT hiding pairs_get
open P5N (Mt nm best_says inv_non)
abbrev sNM : Stmt := topS 17
abbrev sIM : Stmt := topS 19
theorem scNM : FnScope ["first", "second"] ["first", "second"] (defScope sNM) := ⟨rfl, rfl, rfl, by decide +kernel, rfl, by decide +kernel, by decide +kernel⟩
theorem scIM : FnScope ["first", "second", "value", "place", "inner"] ["first", "second", "value"] (defScope sIM) := ⟨rfl, rfl, rfl, by decide +kernel, rfl, by decide +kernel, by decide +kernel⟩
section
variable {P : Program} {w : World} {K : PySem.W.Frag} {mg : Str → Option Value} {base : Heap}
def spNM (K : PySem.W.Frag) : Sp := fun vs H Q _ => ∃ (a b : Addr) (xs ys : List V) (rs ss : List (Int × Int)), vs = [.ref a, .ref b] ∧ Sq K H a xs ∧ PairsAt H xs rs ∧ Sq K H b ys ∧ PairsAt H ys ss ∧ rs.length ≤ 500 ∧ ss.length ≤ 500 ∧
  ∀ H', Same H H' → Q (.bl (nm rs ss)) H'
theorem ok_NM {f fBP : Addr} {fd dBP : FuncData} {k : Nat} (F : Fun K "never_more" "never_more" sNM f fd) (GBP : FnOk P w K mg base CX0 (k + 3) fBP dBP ["first", "second"] (spBP K)) (gBP : mg "_best_places" = some (.ref fBP)) (kBP : PySem.W.keepIn K (.ref fBP) = true) (bBP : Binds K dBP ["first", "second"] []) : FnOk P w K mg base CX0 (k + 4) f fd ["first", "second"] (spNM K) := by
  refine F.ok scNM (fun vs H Q E h => ?_) (fun cdv A outer s H vs Q E hr h => ?_)
  · obtain ⟨a, b, xs, ys, rs, ss, rfl, _⟩ := h
    rfl
  · obtain ⟨a, b, xs, ys, rs, ss, rfl, hA, pa, hB, pb, la, lb, hq⟩ := h
    refine ⟨_, (pss_one (ps_ret (pe_cmpR op_notIn_seq pe_non (pe_call GBP hr (by rfl) gBP kBP bBP .nil pass0 (pa_cons (pv 0) (pa_cons (pv 1) pa_nil))) (by rfl)))), ?_⟩
    refine ⟨.ref a, rfl, .ref b, rfl, a, b, xs, ys, rs, ss, rfl, hA, pa, hB, pb, la, lb, fun H' c L fr0 s nc hc pL oL pf sf => ?_⟩
    obtain ⟨e1, e2⟩ := best_says pL oL pf sf
    refine ⟨c, _, rfl, .inl (SqL.of hc), rfl, e1, ?_⟩
    show Q (V.bl (!inV .non _)) H'
    rw [e2]
    exact hq H' s
def spIM (K : PySem.W.Frag) : Sp := fun vs H Q _ => ∃ (a b g : Addr) (xs ys : List V) (rs ss : List (Int × Int)) (v : V) (d : PyData), vs = [.ref a, .ref b, v] ∧ Sq K H a xs ∧ PairsAt H xs rs ∧ Sq K H b ys ∧ PairsAt H ys ss ∧ rs.length ≤ 500 ∧ ss.length ≤ 500 ∧ Dv g H v d ∧
  ∀ H', Same H H' → Q (.bl (matB rs ss d)) H'
theorem ok_IM {f fNU fCO : Addr} {fd dNU dCO : FuncData} {k : Nat} (F : Fun K "is_matching" "is_matching" sIM f fd) (GNU : FnOk P w K mg base CX0 (k + 1) fNU dNU ["value"] spNu) (gNU : mg "is_number" = some (.ref fNU)) (kNU : PySem.W.keepIn K (.ref fNU) = true) (bNU : Binds K dNU ["value"] []) (GCO : FnOk P w K mg base CX0 (k + 1) fCO dCO ["outer", "inner"] (spCont K)) (gCO : mg "contains" = some (.ref fCO)) (kCO : PySem.W.keepIn K (.ref fCO) = true) (bCO : Binds K dCO ["outer", "inner"] []) (ms : mg "isinstance" = none) (ml : mg "list" = none) (mlen : mg "len" = none) (mall : mg "all" = none) (mset : mg "set" = none) (mz : mg "zip" = none) : FnOk P w K mg base CX0 (k + 2) f fd ["first", "second", "value"] (spIM K) := by
  refine F.ok scIM (fun vs H Q E h => ?_) (fun cdv A outer s H vs Q E hr h => ?_)
  · obtain ⟨a, b, g, xs, ys, rs, ss, v, d, rfl, _⟩ := h
    rfl
  · obtain ⟨a, b, g, xs, ys, rs, ss, v, d, rfl, hA, pa, hB, pb, hl1, hl2, hd, hq⟩ := h
    refine ⟨_, (pss_cons (ps_if (PW.pt (pw_or (pt_not (pt_val (pe_callB call_isi (by rfl) ms (by decide +kernel) (pa_cons (pv 2) (pa_cons (pe_bltn (v := .ty "list") (by rfl) ml (by decide +kernel) rfl) pa_nil))))) (pw_or1 (pt_cmpR op_ne (pe_callB call_len_seq (by rfl) mlen PySem.boot_len (pa_cons (pv 2) pa_nil)) (pe_callB call_len_seq (by rfl) mlen PySem.boot_len (pa_cons (pv 0) pa_nil)) (nomark _))))) (pss_one (ps_ret pe_bl)) pss_nil)
      (pss_cons (ps_if (pt_not (pt_val (pe_callB (cr_all rfl) (by rfl) mall (by decide +kernel) (pa_cons (pe_lc (own := [("place", 3)]) (g := gName 3) (tt := tYes) (te := tAndV (tCall spNu [] E0 (tCons (tVar 3) tNil)) (tChain (rI0 fun i j => V.bl (decide (i ≤ j))) (rI0 fun i j => V.bl (decide (i < j))) (tC (V.int 0)) (tVar 3) (tCB (fun xs H Q => ∃ p ys, xs = [V.ref p] ∧ (SqL K H p ys ∨ SqT K H p ys) ∧ Q (.int ys.length) H) (tCons (tVar 1) tNil)))) rfl scIM.nd (pi_list (pv 2)) (blkOk_by (own := [("place", 3)]) (N := ["first", "second", "value", "place", "inner"]) (sc := defScope sIM) (by decide +kernel)) (fun _ _ _ _ _ => (pg_name (i := 3) scIM.nd rfl (Or.inl rfl) (Or.inr rfl))) (fun _ _ _ _ _ => pts_nil) (fun _ _ _ _ _ => (pe_and (pe_call (GNU.mono (show k + 1 ≤ k + 1 by omega)) hr (by rfl) gNU kNU bNU .nil pass0 (pa_cons (pv 3) pa_nil)) (pe_one (pe_chain op_le op_lt pe_int (pv 3) (pe_callB call_len_seq (by rfl) mlen PySem.boot_len (pa_cons (pv 1) pa_nil))))))) pa_nil)))) (pss_one (ps_ret pe_bl)) pss_nil)
      (pss_cons (ps_if (pt_cmpR op_ne (pe_callB GU.cr_lenSet (by rfl) mlen PySem.boot_len (pa_cons (pe_callTy (KS.cr_setL rfl) (by rfl) mset (by decide +kernel) (pa_cons (pv 2) pa_nil)) pa_nil)) (pe_callB call_len_seq (by rfl) mlen PySem.boot_len (pa_cons (pv 2) pa_nil)) (nomark _)) (pss_one (ps_ret pe_bl)) pss_nil)
      (pss_one (ps_ret (pe_callB (cr_all rfl) (by rfl) mall (by decide +kernel) (pa_cons (pe_lc (own := [("place", 3), ("inner", 4)]) (g := gTup K 2 (gCons (gName 3) (gCons (gName 4) gNil))) (tt := tYes) (te := tCall (spCont K) [] E0 (tCons (tOp (GB.rIxB K) (tVar 1) (tVar 3)) (tCons (tVar 4) tNil))) rfl scIM.nd (GZ.pi_zipS (by rfl) mz (pa_cons (pv 2) (pa_cons (pv 0) pa_nil))) (blkOk_by (own := [("place", 3), ("inner", 4)]) (N := ["first", "second", "value", "place", "inner"]) (sc := defScope sIM) (by decide +kernel)) (fun _ _ _ _ _ => (pg_tup rfl (pgs_cons (pg_name (i := 3) scIM.nd rfl (Or.inl rfl) (Or.inr rfl)) (pgs_cons (pg_name (i := 4) scIM.nd rfl (Or.inl rfl) (Or.inr rfl)) pgs_nil)))) (fun _ _ _ _ _ => pts_nil) (fun _ _ _ _ _ => (pe_call (GCO.mono (show k + 1 ≤ k + 1 by omega)) hr (by rfl) gCO kCO bCO .nil pass0 (pa_cons (pe_ix GB.ix_both (pv 1) (pv 3) (fun _ _ => rfl)) (pa_cons (pv 4) pa_nil))))) pa_nil))))))), ?_⟩
    have la := pa.length
    have lb := pb.length
    refine ⟨v, rfl, v, .ty "list", _, .type "list", _, rfl, .ty "list", hd.ty, kit_l d, _, rfl, ?_⟩
    cases ht : isL d with
    | false =>
      have hq := hq _ (Same.refl H)
      rw [matB_not ht] at hq
      exact iteT (iteT hq)
    | true =>
      obtain ⟨ds, rfl⟩ := isL_lst ht
      cases hd with
      | @lst c zs _ hn e da =>
        refine iteF ⟨.ref c, rfl, _, _, rfl, .inl (SqL.of e), .ref a, rfl, a, xs, rfl, hA, rfl, _, rfl, ?_⟩
        by_cases hl : ds.length = rs.length
        rotate_left
        · have e2 : decide (V.int (zs.length : Int) = V.int (xs.length : Int)) = false := decide_eq_false fun z => by
            have := da.length
            simp only [V.int.injEq] at z
            omega
          rw [e2]
          have hq := hq _ (Same.refl H)
          rw [show matB rs ss (.list ds) = false by show (_ && _) = _; rw [decide_eq_false hl]; rfl] at hq
          exact iteT hq
        · have lz := da.length
          have e2 : decide (V.int (zs.length : Int) = V.int (xs.length : Int)) = true := decide_eq_true (by rw [lz, hl, la])
          rw [e2]
          refine iteF ⟨.ref c, rfl, c, rfl, ⟨zs, SqL.of e⟩, fun D nD => ?_⟩
          refine lc_it (walk_list (xs := zs)) (fun i Hz => Same H Hz ∧ Hz D = some (.lst (((ds.take i).map (plB ss.length)).map V.bl))) ⟨same_new nD, upd_same⟩ (fun i Hz _ z => SqL.of (z.1 _ _ e)) ?_ ?_
          · rintro i x Hz H2 hi ⟨sz, hD⟩ ⟨rfl, hx⟩
            obtain ⟨d3, e3, dv⟩ := da.at hx
            refine ⟨rfl, iteT (B := True) ⟨x, rfl, x, g, d3, rfl, dv.same sz, _, rfl, ?_⟩⟩
            have fin : ∀ bb, bb = plB ss.length d3 → ∃ acc, H2 D = some (.lst acc) ∧ acc.length < sizeLine ∧ (∀ b o, H b = some o → upd H2 D (.lst (acc ++ [V.bl bb])) b = some o) ∧ upd H2 D (.lst (acc ++ [V.bl bb])) D = some (.lst (((ds.take (i + 1)).map (plB ss.length)).map V.bl)) := fun bb hb => by
              refine ⟨_, hD, ?_, fun b o eb => ?_, ?_⟩
              · simp only [List.length_map, List.length_take]
                exact small3000 (by omega)
              · rw [upd_ne (ne_of_none eb nD)]
                exact sz b o eb
              · rw [map_take e3, List.map_append, hb]
                exact upd_same
            cases hn2 : isNum d3 with
            | false =>
              obtain ⟨acc, g1, g2, g3, g4⟩ := fin false (by cases d3 <;> simp_all [plB, isNum])
              exact iteF ⟨acc, g1, g2, g3, g4⟩
            | true =>
              obtain ⟨j, rfl⟩ : ∃ j, d3 = .int j := by
                cases d3 with
                | int j => exact ⟨j, rfl⟩
                | _ => exact absurd hn2 (by simp [isNum])
              cases dv
              refine iteT ⟨.int j, rfl, 0, j, rfl, rfl, _, rfl, ?_⟩
              by_cases h0 : (0 : Int) ≤ j
              · rw [decide_eq_true h0]
                obtain ⟨acc, g1, g2, g3, g4⟩ := fin (decide (j < (ys.length : Nat))) (by simp only [plB, h0, decide_true, Bool.true_and, lb])
                exact iteT ⟨.ref b, rfl, b, ys, rfl, hB.same sz, j, _, rfl, rfl, acc, g1, g2, g3, g4⟩
              · rw [decide_eq_false h0]
                obtain ⟨acc, g1, g2, g3, g4⟩ := fin false (by simp only [plB, h0, decide_false, Bool.false_and])
                exact iteF ⟨acc, g1, g2, g3, g4⟩
          · rintro Hz ⟨sz, hD⟩
            rw [lz, List.take_length] at hD
            refine ⟨D, ds.map (plB ss.length), rfl, SqL.of hD, _, rfl, ?_⟩
            rw [all_id']
            cases hb : ds.all (plB ss.length) with
            | false =>
              have hq := hq _ sz
              rw [show matB rs ss (.list ds) = false by show (_ && (_ && _)) = _; rw [hb, Bool.false_and, Bool.and_false]] at hq
              exact iteT hq
            | true =>
              obtain ⟨ns, rfl, hns⟩ := pl_all hb
              have ez := dv_ints_of da
              subst ez
              have ln : ns.length = rs.length := by rw [← hl]; simp [dInts]
              have e3 := sz _ _ e
              refine iteF ⟨.ref c, rfl, c, ns, rfl, SqL.of e3, by omega, fun p n np hpn => ?_⟩
              refine ⟨p, _, n, rfl, upd_same, by omega, fun ⟨ks, nd, lk, mk⟩ => ?_⟩
              have sp := same_new np (o := SetO w p (fun j => decide (j ∈ ns)) n)
              refine ⟨.ref c, rfl, c, _, rfl, .inl (SqL.of (sp _ _ e3)), rfl, _, rfl, ?_⟩
              subst lk
              rw [List.length_map, set_len nd mk]
              have s2 := sz.trans sp
              by_cases hnd : ns.Nodup
              rotate_left
              · rw [decide_eq_false hnd]
                have hq := hq _ s2
                rw [show matB rs ss (.list (dInts ns)) = false by show (_ && (_ && matN _ _ _)) = _; rw [intsOf_ints, show matN rs ss ns = false by unfold matN; rw [decide_eq_false hnd, Bool.false_and], Bool.and_false, Bool.and_false]] at hq
                exact iteT hq
              · rw [decide_eq_true hnd]
                have e4 := s2 _ _ e
                refine iteF ⟨.ref c, rfl, .ref a, rfl, c, a, _, xs, rfl, SqL.of e4, hA.same s2, fun J G wk hG D2 nD2 => ?_⟩
                refine lc_it wk (fun i Hy => Same (upd Hz p (SetO w p (fun j => decide (j ∈ ns)) ks.length)) Hy ∧ Hy D2 = some (.lst (((List.range i).map (okP rs ss ns)).map V.bl))) ⟨same_new nD2, upd_same⟩ (fun i Hy _ z => hG _ z.1) ?_ ?_
                · rintro i y Hy Hx hi ⟨sy, hD2⟩ ⟨T, x, u, rfl, nT, rfl, hx, hu⟩
                  obtain ⟨m, hm, rfl⟩ := int_at hx
                  obtain ⟨r, p2, er, rfl, e5⟩ := pr_at pa hu
                  obtain ⟨m0, m1⟩ := hns m (List.mem_of_getElem? hm)
                  obtain ⟨j, rfl⟩ : ∃ j : Nat, m = (j : Int) := ⟨m.toNat, by omega⟩
                  have hj : j < ys.length := by omega
                  have ej := List.getElem?_eq_getElem hj
                  obtain ⟨r2, p3, er2, ep3, e6⟩ := pr_at pb ej
                  have sT := same_new nT (o := .tup [.int (j : Int), .ref p2])
                  have s3 := (s2.trans sy).trans sT
                  refine ⟨T, _, rfl, SqT.of upd_same, rfl, .int (j : Int), [.ref p2], rfl, .ref p2, [], rfl, rfl, rfl, iteT (B := True) ?_⟩
                  refine ⟨.ref b, rfl, .int (j : Int), rfl, b, ys, _, ys[j], rfl, rfl, hB.same s3, atI_nat ej, .ref p2, rfl, ?_⟩
                  rw [ep3]
                  refine ⟨p3, p2, r2.1, r2.2, r.1, r.2, rfl, SqT.of (s3 _ _ e6), SqT.of (s3 _ _ e5), _, sT _ _ hD2, ?_, fun b3 o eb => ?_, ?_⟩
                  · simp only [List.length_map, List.length_range]
                    exact small3000 (by rw [List.length_map] at hi; omega)
                  · rw [upd_ne (ne_of_none eb nD2)]
                    exact sT _ _ (sy b3 o eb)
                  · rw [List.range_succ, List.map_append, List.map_append, List.map_cons, List.map_nil, List.map_cons, List.map_nil, show okP rs ss ns i = (decide (r2.1 ≤ r.1) && decide (r.2 ≤ r2.2)) by unfold okP; rw [hm]; show cB (at0 ss ((j : Int)).toNat) (at0 rs i) = _; rw [Int.toNat_natCast]; unfold at0; rw [er, er2]; rfl]
                    exact upd_same
                · rintro Hy ⟨sy, hD2⟩
                  rw [List.length_map, la, ln, Nat.min_self] at hD2
                  refine ⟨D2, _, rfl, SqL.of hD2, ?_⟩
                  rw [all_id']
                  have hq := hq _ (s2.trans sy)
                  rw [show matB rs ss (.list (dInts ns)) = (List.range rs.length).all (okP rs ss ns) by show (_ && (_ && matN _ _ _)) = _; rw [decide_eq_true hl, hb, intsOf_ints, Bool.true_and, Bool.true_and]; unfold matN; rw [decide_eq_true hnd, Bool.true_and]] at hq
                  exact hq
/-- the error of a list that is too long -/
def ErL (CL : Addr) (n : Nat) (H : Hp) (E : XK) : Prop := ∀ H' dx, Same H H' → H' dx = none → E (.ref CL) (some dx) (upd H' dx (.xd [(("count" : Str), .int ((n : Nat) : Int))]))
def spRLx (K : PySem.W.Frag) (CL : Addr) : Sp := fun vs H Q E => ∃ (a : Addr) (xs : List V), vs = [.ref a] ∧ Sq K H a xs ∧ (xs.length ≤ 12 → Q .non H) ∧ (12 < xs.length → ErL CL xs.length H E)
theorem ok_RLx {f : Addr} {fd : FuncData} {CL fIN : Addr} {dIN : FuncData} {k : Nat} (F : Fun K "_refuse_large" "_refuse_large" sRL f fd) (mlen : mg "len" = none) (gM : ∃ u, mg "MOST_RANGES" = some u ∧ RelV (.int 12) u) (TL : ErrC K CL fIN "count") (gL : mg "TooLarge" = some (.ref CL)) (GIN : FnOk P w K mg base CX0 1 fIN dIN ["self", "count"] (XS.spInit CL "count")) (bIN : Binds K dIN ["self", "count"] []) : FnOk P w K mg base (CX P w) (k + 3) f fd ["ranges"] (spRLx K CL) := by
  refine F.okX scRL (fun vs H Q E h => ?_) (fun cdv A outer s H vs Q E hr h => ?_)
  · obtain ⟨a, xs, rfl, _⟩ := h
    rfl
  · obtain ⟨a, xs, rfl, hA, hq, hE⟩ := h
    refine ⟨_, (pss_one (ps_if (pt_cmpR op_gt (pe_callB call_len_seq (by rfl) mlen PySem.boot_len (pa_cons (pv 0) pa_nil)) (C8.pe_gc (v := .int 12) (by rfl) gM) (nomark _)) (pss_one (ps_raise rfl (takes_of rfl rfl rfl rfl) (pmk_oex TL.oex TL.iC TL.tI GIN (hr.mono (show 1 + 1 ≤ k + 2 by omega)) bIN .nil pass0 (by rfl) gL (pa_cons (pe_callB call_len_seq (by rfl) mlen PySem.boot_len (pa_cons (pv 0) pa_nil)) pa_nil)))) pss_nil)), ?_⟩
    refine ⟨.ref a, rfl, a, xs, rfl, hA, _, 12, rfl, rfl, _, rfl, ?_⟩
    by_cases hl : xs.length ≤ 12
    · rw [decide_eq_false (show ¬ (12 : Int) < (xs.length : Int) by omega)]
      exact iteF (hq hl)
    · rw [decide_eq_true (show (12 : Int) < (xs.length : Int) by omega)]
      exact iteT ⟨.ref a, rfl, a, xs, rfl, hA, init_ends fun dx ndx => hE (by omega) H dx (Same.refl H) ndx⟩
/-- one of two lists is too long; the first one's length is told, if it is -/
def TooL (xs ys : List V) (n : Nat) : Prop := (12 < xs.length ∧ n = xs.length) ∨ (xs.length ≤ 12 ∧ 12 < ys.length ∧ n = ys.length)
def spLSx (K : PySem.W.Frag) (CL : Addr) : Sp := fun vs H Q E => ∃ (a b : Addr) (xs ys : List V) (n : Nat), vs = [.ref a, .ref b] ∧ Sq K H a xs ∧ Sq K H b ys ∧ TooL xs ys n ∧ ErL CL n H E
theorem ok_LSx {f : Addr} {fd : FuncData} {CL : Addr} {fRL : Addr} {dRL : FuncData} {k : Nat} (F : Fun K "_least" "_least" sLS f fd) (GRL : FnOk P w K mg base (CX P w) (k + 3) fRL dRL ["ranges"] (spRLx K CL)) (gRL : mg "_refuse_large" = some (.ref fRL)) (kRL : PySem.W.keepIn K (.ref fRL) = true) (bRL : Binds K dRL ["ranges"] []) : FnOk P w K mg base (CX P w) (k + 9) f fd ["first", "second"] (spLSx K CL) := by
  refine F.okX scLS (fun vs H Q E h => ?_) (fun cdv A outer s H vs Q E hr h => ?_)
  · obtain ⟨a, b, xs, ys, n, rfl, _⟩ := h
    rfl
  · obtain ⟨a, b, xs, ys, n, rfl, hA, hB, tl, hE⟩ := h
    refine ⟨_, (pss_cons (ps_expr (pe_callS (GRL.mono (show k + 3 ≤ k + 8 by omega)) hr (by rfl) gRL kRL bRL (fun σ => passAt (takes_of rfl rfl rfl rfl) σ) (pa_cons (pv 0) pa_nil))) (pss_cons (ps_expr (pe_callS (GRL.mono (show k + 3 ≤ k + 8 by omega)) hr (by rfl) gRL kRL bRL (fun σ => passAt (takes_of rfl rfl rfl rfl) σ) (pa_cons (pv 1) pa_nil))) pss_never)), ?_⟩
    rcases tl with ⟨h1, rfl⟩ | ⟨h1, h2, rfl⟩
    · exact ⟨.ref a, rfl, a, xs, rfl, hA, fun z => absurd h1 (by omega), fun _ => hE⟩
    · exact ⟨.ref a, rfl, a, xs, rfl, hA, fun _ => ⟨.ref b, rfl, b, ys, rfl, hB, fun z => absurd h2 (by omega), fun _ => hE⟩, fun z => absurd z (by omega)⟩
theorem ok_F1x {f : Addr} {fd : FuncData} {CL : Addr} {fLS : Addr} {dLS : FuncData} {k : Nat} (F : Fun K "factor" "factor" sF1 f fd) (GLS : FnOk P w K mg base (CX P w) (k + 9) fLS dLS ["first", "second"] (spLSx K CL)) (gLS : mg "_least" = some (.ref fLS)) (kLS : PySem.W.keepIn K (.ref fLS) = true) (bLS : Binds K dLS ["first", "second"] []) : FnOk P w K mg base (CX P w) (k + 10) f fd ["first", "second"] (spLSx K CL) := by
  refine F.okX scF1 (fun vs H Q E h => ?_) (fun cdv A outer s H vs Q E hr h => ?_)
  · obtain ⟨a, b, xs, ys, n, rfl, _⟩ := h
    rfl
  · obtain ⟨a, b, xs, ys, n, rfl, hA, hB, tl, hE⟩ := h
    refine ⟨_, (pss_one (ps_ret (pe_ix ix_tup (pe_callS (GLS.mono (show k + 9 ≤ k + 9 by omega)) hr (by rfl) gLS kLS bLS (fun σ => passAt (takes_of rfl rfl rfl rfl) σ) (pa_cons (pv 0) (pa_cons (pv 1) pa_nil))) pe_int (fun _ _ => rfl)))), ?_⟩
    exact ⟨.ref a, rfl, .ref b, rfl, a, b, xs, ys, n, rfl, hA, hB, tl, hE⟩
end
end F6W

/-! factors: under tables, both ways, of a list with itself, of few and of nested ranges -/
namespace K66
open PySem K52b K55 K55b K55c K57 K65
section
variable {rs ss : List (Int × Int)} {p q p2 q2 : Nat} {V W : List (Int × Int)}
/-- there is no factor -/
def NoF (rs ss : List (Int × Int)) : Prop := ∃ V, Sb rs V ∧ 0 < rs.countP (ard V) ∧ ss.countP (ard V) = 0
theorem ft_no (h : Ft rs ss p q V) : ¬ NoF rs ss := fun ⟨W, h1, h2, h3⟩ => by
  have := h.le W h1
  rw [h3, Nat.mul_zero] at this
  have := Nat.mul_pos h.fr.pos h2
  omega
theorem ft_nm (h : Ft rs ss p q V) : NMm (rep q rs) (rep p ss) := nm_sets.mpr fun W hW => by
  rw [rep_cnt, rep_cnt]
  exact h.le W fun v hv => rep_mem (hW v hv)
theorem wear_rep (T : List Ent) (rs : List (Int × Int)) : ∀ n : Nat, wear T (rep n rs) = n * wear T rs
  | 0 => by rw [show ((0 : Nat) : Int) = 0 from rfl, Int.zero_mul]; rfl
  | n + 1 => by
    rw [rep_succ, wear_app, wear_rep T rs n, show ((n + 1 : Nat) : Int) = (n : Int) + 1 from rfl, Int.add_mul, Int.one_mul]
    omega
theorem nm_wear {T : List Ent} (g : Good T) {rs ss : List (Int × Int)} (h : NMm rs ss) : wear T rs ≤ wear T ss :=
  wear_le g fun U up => by
    show rs.countP (fun r => U r.1 r.2) ≤ ss.countP (fun r => U r.1 r.2)
    exact nm_le (p := fun r => U r.1 r.2) (fun o r c e => up.up c.1 c.2 e) h
theorem ft_wear {T : List Ent} (g : Good T) (h : Ft rs ss p q V) : (q : Int) * wear T rs ≤ (p : Int) * wear T ss := by
  have := nm_wear g (ft_nm h)
  rw [wear_rep, wear_rep] at this
  exact this
theorem ft_all (h : Ft rs ss p q V) (U : Int × Int → Bool) (up : UpP U) : q * rs.countP U ≤ p * ss.countP U := by
  have := nm_le up (ft_nm h)
  rw [rep_cnt, rep_cnt] at this
  exact this
theorem ft_le (h : Ft rs ss p q V) : p ≤ q ↔ NMm rs ss := by
  constructor
  · intro le
    refine nm_sets.mpr fun W hW => Nat.le_of_mul_le_mul_left ?_ h.fr.pos
    exact Nat.le_trans (h.le W hW) (Nat.mul_le_mul_right _ le)
  · intro nm
    rcases h.fr.le1 with ⟨rfl, rfl⟩ | ⟨_, _, _, hs⟩
    · exact Nat.zero_le _
    · have e := h.fr.eq
      have l := nm_le (ard_up V) nm
      exact Nat.le_of_mul_le_mul_right (by rw [← e]; exact Nat.mul_le_mul_left q l) hs
theorem nof_nm (h : NoF rs ss) : ¬ NMm rs ss := fun nm => by
  obtain ⟨W, h1, h2, h3⟩ := h
  have := nm_le (ard_up W) nm
  omega
theorem ard_self : rs.countP (ard rs) = rs.length := List.countP_eq_length.mpr fun r hr => List.any_eq_true.mpr ⟨r, hr, hasB_iff.mpr (cont_refl r)⟩
theorem both_one (h : Ft rs ss p q V) (g : Ft ss rs p2 q2 W) (ne : rs ≠ []) : q * q2 ≤ p * p2 := by
  have n0 : 0 < rs.length := List.length_pos_iff.mpr ne
  have a := ft_all h (ard rs) (ard_up rs)
  have b := ft_all g (ard rs) (ard_up rs)
  rw [ard_self] at a b
  generalize rs.length = n at *
  generalize ss.countP (ard rs) = c at *
  have c0 : 0 < c := by
    rcases Nat.eq_zero_or_pos c with z | z
    · rw [z, Nat.mul_zero] at a
      have := Nat.mul_pos h.fr.pos n0
      omega
    · exact z
  refine Nat.le_of_mul_le_mul_right (c := n * c) ?_ (Nat.mul_pos n0 c0)
  calc q * q2 * (n * c) = (q * n) * (q2 * c) := by rw [Nat.mul_mul_mul_comm]
    _ ≤ (p * c) * (p2 * n) := Nat.mul_le_mul a b
    _ = p * p2 * (n * c) := by rw [Nat.mul_mul_mul_comm, Nat.mul_comm c n]
theorem self_no : ¬ NoF rs rs := fun ⟨_, _, h2, h3⟩ => by omega
theorem self_one (h : Ft rs rs p q V) (ne : rs ≠ []) : p = 1 ∧ q = 1 := by
  have e : p = q := by
    rcases h.fr.le1 with ⟨rfl, rfl⟩ | ⟨_, _, hs, _⟩
    · have := h.le rs fun _ z => z
      rw [ard_self] at this
      have : 0 < rs.length := List.length_pos_iff.mpr ne
      omega
    · exact (Nat.eq_of_mul_eq_mul_right hs h.fr.eq).symm
  have c := h.fr.cop
  subst e
  have : p = 1 := by rw [Nat.Coprime, Nat.gcd_self] at c; exact c
  exact ⟨this, this⟩
theorem nil_no : ¬ NoF [] ss := fun ⟨_, _, h2, _⟩ => by simp at h2
theorem nil_ft (h : Ft [] ss p q V) : p = 0 ∧ q = 1 := by
  rcases h.fr.le1 with h | ⟨_, _, hs, _⟩
  · exact h
  · simp at hs
/-! sets that decide -/
/-- every set of rs is around the same as one of Vs -/
structure Dec (rs : List (Int × Int)) (Vs : List (List (Int × Int))) : Prop where
  all : ∀ V, Sb rs V → ∃ W ∈ Vs, ∀ r, ard V r = ard W r
  sb : ∀ W ∈ Vs, Sb rs W
theorem cnt_same {rs V W : List (Int × Int)} (h : ∀ r, ard V r = ard W r) : rs.countP (ard V) = rs.countP (ard W) := by congr 1; funext r; exact h r
theorem dec_no {Vs : List (List (Int × Int))} {g : Nat × Nat} (d : Dec rs Vs) (e : lf rs ss Vs (0, 1) = some g) : ¬ NoF rs ss := fun ⟨V, h1, h2, h3⟩ => by
  obtain ⟨W, hW, ew⟩ := d.all V h1
  have : lf rs ss Vs (0, 1) = none := lf_none.mpr ⟨W, hW, by rw [← cnt_same ew]; exact h2, by rw [← cnt_same ew]; exact h3⟩
  rw [e] at this
  cases this
theorem dec_due {Vs : List (List (Int × Int))} {g : Nat × Nat} (d : Dec rs Vs) (e : lf rs ss Vs (0, 1) = some g) (h : Ft rs ss p q V) : 0 < g.2 ∧ p * g.2 = g.1 * q := by
  obtain ⟨h1, _, h3, h4⟩ := lf_some Nat.one_pos e
  refine ⟨h1, Nat.le_antisymm ?_ ?_⟩
  · obtain ⟨W, hW, ew⟩ := d.all V h.fr.sb
    have k := h3 W hW
    rw [← cnt_same ew, ← cnt_same ew] at k
    rcases h.fr.le1 with ⟨rfl, rfl⟩ | ⟨_, _, _, hs⟩
    · rw [Nat.zero_mul]; exact Nat.zero_le _
    · exact cross (p := g.1) (q := g.2) hs h.fr.eq (by rw [Nat.mul_comm]; exact k)
  · rcases h4 with rfl | ⟨W, hW, _, rfl⟩
    · rw [Nat.zero_mul]; exact Nat.zero_le _
    · rw [Nat.mul_comm]; exact h.le W (d.sb W hW)
/-- the fraction that is found, in lowest terms -/
def isF (rs ss : List (Int × Int)) (Vs : List (List (Int × Int))) (a b : Nat) : Bool := match lf rs ss Vs (0, 1) with
  | some g => decide (g.1 * b = a * g.2) | none => false
theorem dec_is {Vs : List (List (Int × Int))} {a b : Nat} (d : Dec rs Vs) (b0 : 0 < b) (co : Nat.Coprime a b) (e : isF rs ss Vs a b = true) : ¬ NoF rs ss ∧ ∀ p q V, Ft rs ss p q V → p = a ∧ q = b := by
  unfold isF at e
  split at e
  · rename_i g eg
    have e := of_decide_eq_true e
    refine ⟨dec_no d eg, fun p q V h => ?_⟩
    obtain ⟨g0, ge⟩ := dec_due d eg h
    refine low_one h.fr.cop co h.fr.pos b0 (Nat.eq_of_mul_eq_mul_right g0 ?_)
    calc p * b * g.2 = (p * g.2) * b := by rw [Nat.mul_assoc, Nat.mul_comm b, ← Nat.mul_assoc]
      _ = (g.1 * q) * b := by rw [ge]
      _ = (g.1 * b) * q := by rw [Nat.mul_assoc, Nat.mul_comm q, ← Nat.mul_assoc]
      _ = (a * g.2) * q := by rw [e]
      _ = a * q * g.2 := by rw [Nat.mul_assoc, Nat.mul_comm g.2, ← Nat.mul_assoc]
  · cases e
theorem dec_subs {D : List (Int × Int)} (hD : ∀ v, v ∈ D ↔ v ∈ rs) : Dec rs (subs D [[]]) := ⟨fun _ hV => subs_all hD hV, fun _ hW => subs_sb hD hW⟩
theorem cont_tr {a b c : Int × Int} (h : hasB a b = true) (g : hasB b c = true) : hasB a c = true := hasB_iff.mpr (cont_trans (hasB_iff.mp h) (hasB_iff.mp g))
/-- of nested ranges the innermost one decides -/
theorem inner {rs : List (Int × Int)} (ch : ∀ u ∈ rs, ∀ v ∈ rs, hasB u v = true ∨ hasB v u = true) : ∀ {V : List (Int × Int)}, Sb rs V → V ≠ [] → ∃ v ∈ V, ∀ u ∈ V, hasB u v = true
  | [], _, ne => absurd rfl ne
  | [a], _, _ => ⟨a, List.mem_cons_self, fun u hu => by rw [List.mem_singleton.mp hu]; exact hasB_iff.mpr (cont_refl a)⟩
  | a :: b :: V, h, _ => by
    obtain ⟨v, hv, hm⟩ := inner ch (V := b :: V) (fun x hx => h x (List.mem_cons_of_mem _ hx)) (by simp)
    rcases ch a (h a List.mem_cons_self) v (h v (List.mem_cons_of_mem _ hv)) with c | c
    · refine ⟨v, List.mem_cons_of_mem _ hv, fun u hu => ?_⟩
      rcases List.mem_cons.mp hu with rfl | hu
      · exact c
      · exact hm u hu
    · refine ⟨a, List.mem_cons_self, fun u hu => ?_⟩
      rcases List.mem_cons.mp hu with rfl | hu
      · exact hasB_iff.mpr (cont_refl u)
      · exact cont_tr (hm u hu) c
theorem dec_chain {rs : List (Int × Int)} (ch : ∀ u ∈ rs, ∀ v ∈ rs, hasB u v = true ∨ hasB v u = true) : Dec rs ([] :: rs.map fun v => [v]) := by
  refine ⟨fun V hV => ?_, fun W hW => ?_⟩
  · by_cases ne : V = []
    · subst ne
      exact ⟨[], List.mem_cons_self, fun _ => rfl⟩
    · obtain ⟨v, hv, hm⟩ := inner ch hV ne
      refine ⟨[v], List.mem_cons_of_mem _ (List.mem_map.mpr ⟨v, hV v hv, rfl⟩), fun r => ?_⟩
      unfold ard
      rw [Bool.eq_iff_iff, List.any_eq_true, List.any_eq_true]
      exact ⟨fun ⟨u, hu, h⟩ => ⟨v, List.mem_singleton.mpr rfl, cont_tr h (hm u hu)⟩, fun ⟨u, hu, h⟩ => ⟨v, hv, by rw [← List.mem_singleton.mp hu]; exact h⟩⟩
  · rcases List.mem_cons.mp hW with rfl | hW
    · exact fun _ z => (List.not_mem_nil z).elim
    · obtain ⟨v, hv, rfl⟩ := List.mem_map.mp hW
      exact fun u hu => by rw [List.mem_singleton.mp hu]; exact hv
/-! the known ones -/
def sx : Int × Int := (-1000000000, 7)
def sy : Int × Int := (-3, 1000000000)
def sm (two : Bool) : List (Int × Int) := if two then [sx, sy] else [sx]
theorem sm_dec {rs : List (Int × Int)} (two : Bool) (h : ∀ v, v ∈ sm two ↔ v ∈ rs) : Dec rs (subs (sm two) [[]]) := dec_subs h
def nst (s : Int) : List (Int × Int) := (List.range 12).map fun (k : Nat) => (s + (k : Int), s + 24 - (k : Int))
/-- its copies -/
def cps (s : Int) (n : Nat) : List (Int × Int) := (List.range n).flatMap fun (k : Nat) => rep (1 + k / 2) [(s + 2 * (k : Int), s + 24 - 2 * (k : Int))]
def chB (rs : List (Int × Int)) : Bool := rs.all fun u => rs.all fun v => hasB u v || hasB v u
theorem ch_of {rs : List (Int × Int)} (h : chB rs = true) : ∀ u ∈ rs, ∀ v ∈ rs, hasB u v = true ∨ hasB v u = true := fun u hu v hv => by
  have := List.all_eq_true.mp (List.all_eq_true.mp h u hu) v hv
  rw [Bool.or_eq_true] at this
  exact this
def nstB (s : Int) : Bool := chB (nst s) && (chB (cps s 6) && (isF (nst s) (cps s 6) ([] :: (nst s).map fun v => [v]) 2 1 && isF (cps s 6) (nst s) ([] :: (cps s 6).map fun v => [v]) 12 11))
theorem nst_all : (List.range 100).all (fun (n : Nat) => nstB ((n : Int) - 50)) = true := by decide +kernel
theorem nst_is {s : Int} (h1 : -50 ≤ s) (h2 : s < 50) : (¬ NoF (nst s) (cps s 6) ∧ ∀ p q V, Ft (nst s) (cps s 6) p q V → p = 2 ∧ q = 1) ∧ ¬ NoF (cps s 6) (nst s) ∧ ∀ p q V, Ft (cps s 6) (nst s) p q V → p = 12 ∧ q = 11 := by
  have h := List.all_eq_true.mp nst_all (s + 50).toNat (List.mem_range.mpr (by omega))
  rw [show (((s + 50).toNat : Nat) : Int) - 50 = s by omega] at h
  unfold nstB at h
  rw [Bool.and_eq_true, Bool.and_eq_true, Bool.and_eq_true] at h
  obtain ⟨a, b, c, d⟩ := h
  exact ⟨dec_is (dec_chain (ch_of a)) (by decide) (by decide) c, dec_is (dec_chain (ch_of b)) (by decide) (by decide) d⟩
theorem sm_is (two : Bool) : (¬ NoF (rep 3 ((sm two).take 1) ++ rep 5 ((sm two).drop 1)) (sm two) ∧ ∀ p q V, Ft (rep 3 ((sm two).take 1) ++ rep 5 ((sm two).drop 1)) (sm two) p q V → p = (if two then 5 else 3) ∧ q = 1) ∧
    (¬ NoF (rep 3 (sm two)) (rep 2 (sm two)) ∧ ∀ p q V, Ft (rep 3 (sm two)) (rep 2 (sm two)) p q V → p = 3 ∧ q = 2) ∧
    ¬ NoF (rep 2 (sm two)) (rep 6 (sm two)) ∧ ∀ p q V, Ft (rep 2 (sm two)) (rep 6 (sm two)) p q V → p = 1 ∧ q = 3 := by
  have key : ∀ {rs : List (Int × Int)}, ((sm two).all fun v => rs.contains v) = true → (rs.all fun v => (sm two).contains v) = true → Dec rs (subs (sm two) [[]]) := fun {rs} h1 h2 => dec_subs fun v =>
    ⟨fun h => List.contains_iff_mem.mp (List.all_eq_true.mp h1 v h), fun h => List.contains_iff_mem.mp (List.all_eq_true.mp h2 v h)⟩
  cases two with
  | true => exact ⟨dec_is (key (by decide +kernel) (by decide +kernel)) (by decide) (by decide) (by decide +kernel), dec_is (key (by decide +kernel) (by decide +kernel)) (by decide) (by decide) (by decide +kernel), dec_is (key (by decide +kernel) (by decide +kernel)) (by decide) (by decide) (by decide +kernel)⟩
  | false => exact ⟨dec_is (key (by decide +kernel) (by decide +kernel)) (by decide) (by decide) (by decide +kernel), dec_is (key (by decide +kernel) (by decide +kernel)) (by decide) (by decide) (by decide +kernel), dec_is (key (by decide +kernel) (by decide +kernel)) (by decide) (by decide) (by decide +kernel)⟩
theorem sm_lt (two : Bool) : ∀ r ∈ sm two, r.1 < r.2 := by cases two <;> decide +kernel
theorem sm_len (two : Bool) : (sm two).length = if two then 2 else 1 := by cases two <;> rfl
theorem nst_len (s : Int) : (nst s).length = 12 := by unfold nst; rw [List.length_map, List.length_range]
theorem nst_lt {s : Int} : ∀ r ∈ nst s, r.1 < r.2 := fun r hr => by
  obtain ⟨k, hk, rfl⟩ := List.mem_map.mp hr
  have := List.mem_range.mp hk
  show s + (k : Int) < s + 24 - (k : Int)
  omega
theorem cps_succ (s : Int) (n : Nat) : cps s (n + 1) = cps s n ++ rep (1 + n / 2) [(s + 2 * (n : Int), s + 24 - 2 * (n : Int))] := by
  unfold cps
  rw [List.range_succ, List.flatMap_append]
  congr 1
  rw [List.flatMap_cons, List.flatMap_nil, List.append_nil]
theorem cps_len (s : Int) : (cps s 6).length = 12 := by
  rw [cps_succ, cps_succ, cps_succ, cps_succ, cps_succ, cps_succ]
  simp only [List.length_append, rep_len]
  rfl
theorem cps_lt {s : Int} : ∀ r ∈ cps s 6, r.1 < r.2 := fun r hr => by
  obtain ⟨k, hk, h⟩ := List.mem_flatMap.mp hr
  have := List.mem_range.mp hk
  rw [List.mem_singleton.mp (rep_mem h)]
  show s + 2 * (k : Int) < s + 24 - 2 * (k : Int)
  omega
theorem nst_at {s : Int} {k : Nat} (h : k < 12) : (nst s)[k]? = some (s + (k : Int), s + 24 - (k : Int)) := by
  unfold nst
  rw [List.getElem?_map, List.getElem?_range h]
  rfl
end
end K66

/-! lists behind one another: never more and factors over a list between; mirrored lists -/
namespace K96
open PySem K52b K55 K55b K55c K57 K65 K66
section
variable {rs ss ts : List (Int × Int)} {p q p2 q2 p3 q3 : Nat} {V W X : List (Int × Int)}
theorem nm_trans (h : NMm rs ss) (g : NMm ss ts) : NMm rs ts := nm_sets.mpr fun V _ => Nat.le_trans (nm_le (ard_up V) h) (nm_le (ard_up V) g)
theorem nm_self (rs : List (Int × Int)) : NMm rs rs := nm_sets.mpr fun _ _ => Nat.le_refl _
/-- over a list between, for any set -/
theorem over (h : Ft rs ss p q V) (g : Ft ss ts p2 q2 W) (X : List (Int × Int)) : q * q2 * rs.countP (ard X) ≤ p * p2 * ts.countP (ard X) := by
  have a := ft_all h (ard X) (ard_up X)
  have b := ft_all g (ard X) (ard_up X)
  calc q * q2 * rs.countP (ard X) = q2 * (q * rs.countP (ard X)) := by rw [Nat.mul_comm q, Nat.mul_assoc]
    _ ≤ q2 * (p * ss.countP (ard X)) := Nat.mul_le_mul_left _ a
    _ = p * (q2 * ss.countP (ard X)) := by rw [← Nat.mul_assoc, Nat.mul_comm q2, Nat.mul_assoc]
    _ ≤ p * (p2 * ts.countP (ard X)) := Nat.mul_le_mul_left _ b
    _ = p * p2 * ts.countP (ard X) := by rw [Nat.mul_assoc]
theorem over_no (h : Ft rs ss p q V) (g : Ft ss ts p2 q2 W) : ¬ NoF rs ts := fun ⟨X, h1, h2, h3⟩ => by
  have := over h g X
  rw [h3, Nat.mul_zero] at this
  have := Nat.mul_pos (Nat.mul_pos h.fr.pos g.fr.pos) h2
  omega
theorem over_le (h : Ft rs ss p q V) (g : Ft ss ts p2 q2 W) (k : Ft rs ts p3 q3 X) : p3 * q * q2 ≤ p * p2 * q3 := by
  rcases k.fr.le1 with ⟨rfl, rfl⟩ | ⟨_, _, _, hs⟩
  · rw [Nat.zero_mul, Nat.zero_mul]; exact Nat.zero_le _
  · have o := over h g X
    have e := k.fr.eq
    refine Nat.le_of_mul_le_mul_right (c := ts.countP (ard X)) ?_ hs
    calc p3 * q * q2 * ts.countP (ard X) = (p3 * ts.countP (ard X)) * (q * q2) := by rw [Nat.mul_assoc p3, Nat.mul_assoc, Nat.mul_comm (q * q2), ← Nat.mul_assoc]
      _ = (q3 * rs.countP (ard X)) * (q * q2) := by rw [e]
      _ = q3 * (q * q2 * rs.countP (ard X)) := by rw [Nat.mul_assoc, Nat.mul_comm (rs.countP _)]
      _ ≤ q3 * (p * p2 * ts.countP (ard X)) := Nat.mul_le_mul_left _ o
      _ = p * p2 * q3 * ts.countP (ard X) := by rw [← Nat.mul_assoc, Nat.mul_comm q3]
/-! mirrored -/
def ng (r : Int × Int) : Int × Int := (0 - r.2, 0 - r.1)
theorem ng_ng (r : Int × Int) : ng (ng r) = r := by
  obtain ⟨a, b⟩ := r
  show (0 - (0 - a), 0 - (0 - b)) = (a, b)
  rw [show 0 - (0 - a) = a by omega, show 0 - (0 - b) = b by omega]
theorem has_ng (o r : Int × Int) : hasB (ng o) (ng r) = hasB o r := by
  rw [Bool.eq_iff_iff, hasB_iff, hasB_iff]
  unfold cont ng
  dsimp only
  omega
theorem ard_ng (V : List (Int × Int)) (r : Int × Int) : ard (V.map ng) (ng r) = ard V r := by
  unfold ard
  rw [List.any_map]
  congr 1
  funext v
  exact has_ng r v
theorem ard_ng2 (V : List (Int × Int)) (r : Int × Int) : ard V (ng r) = ard (V.map ng) r := by rw [← ard_ng V, ng_ng2 r, ] where
  ng_ng2 (r : Int × Int) : ng (ng r) = r := ng_ng r
/-- a list turned and mirrored -/
def Mir (rs rs2 : List (Int × Int)) : Prop := rs2.Perm (rs.map ng)
theorem Mir.cnt {rs2 : List (Int × Int)} (h : Mir rs rs2) (V : List (Int × Int)) : rs2.countP (ard (V.map ng)) = rs.countP (ard V) := by
  rw [List.Perm.countP_eq _ h, List.countP_map]
  congr 1
  funext r
  exact ard_ng V r
theorem map_ng (V : List (Int × Int)) : (V.map ng).map ng = V := by
  rw [List.map_map]
  conv => rhs; rw [← List.map_id V]
  congr 1
  funext r
  exact ng_ng r
theorem Mir.cnt2 {rs2 : List (Int × Int)} (h : Mir rs rs2) (V : List (Int × Int)) : rs2.countP (ard V) = rs.countP (ard (V.map ng)) := by
  have := h.cnt (V.map ng)
  rw [map_ng] at this
  exact this
theorem Mir.sb {rs2 : List (Int × Int)} (h : Mir rs rs2) (hV : Sb rs V) : Sb rs2 (V.map ng) := fun v hv => by
  obtain ⟨u, hu, rfl⟩ := List.mem_map.mp hv
  exact h.mem_iff.mpr (List.mem_map.mpr ⟨u, hV u hu, rfl⟩)
theorem Mir.sb2 {rs2 : List (Int × Int)} (h : Mir rs rs2) (hV : Sb rs2 V) : Sb rs (V.map ng) := fun v hv => by
  obtain ⟨u, hu, rfl⟩ := List.mem_map.mp hv
  obtain ⟨w, hw, e⟩ := List.mem_map.mp (h.mem_iff.mp (hV u hu))
  rw [← e, ng_ng]
  exact hw
theorem Mir.nm {rs2 ss2 : List (Int × Int)} (h : Mir rs rs2) (g : Mir ss ss2) : NMm rs2 ss2 ↔ NMm rs ss := by
  rw [nm_sets, nm_sets]
  constructor
  · intro k V hV
    rw [← h.cnt, ← g.cnt]
    exact k _ (h.sb hV)
  · intro k V hV
    rw [h.cnt2, g.cnt2]
    exact k _ (h.sb2 hV)
theorem Mir.no {rs2 ss2 : List (Int × Int)} (h : Mir rs rs2) (g : Mir ss ss2) (n : NoF rs ss) : NoF rs2 ss2 := by
  obtain ⟨V, h1, h2, h3⟩ := n
  exact ⟨V.map ng, h.sb h1, by rw [h.cnt]; exact h2, by rw [g.cnt]; exact h3⟩
theorem Mir.ft {rs2 ss2 : List (Int × Int)} (h : Mir rs rs2) (g : Mir ss ss2) (k : Ft rs ss p q V) : Ft rs2 ss2 p q (V.map ng) := by
  refine ⟨?_, fun W hW => ?_⟩
  · cases k.fr with
    | zero => exact .zero
    | of hV hr hs =>
      rw [← h.cnt V, ← g.cnt V]
      rw [← h.cnt V] at hr
      rw [← g.cnt V] at hs
      exact .of (h.sb hV) hr hs
  · rw [h.cnt2, g.cnt2]
    exact k.le _ (h.sb2 hW)
end
end K96

/-! repr of a bool -/
namespace GRB
open PySem PySem.Spec PyProof.Rows L2
section
variable {X : Cx}
def rReprB : List V → Hp → VK → Prop := fun vs H Q => ∃ b : Bool, vs = [V.bl b] ∧ Q (.str (PyData.bool b).shown) H
theorem cr_reprB : CallR X (.builtin "repr") rReprB := by
  intro pins s σ H vs us Q I r h
  obtain ⟨b, rfl, q⟩ := h
  cases r with
  | cons ru rt =>
    cases rt
    cases ru
    refine PySem.P.repr_of_bool ⟨.str _, H, I.tok _, ⟨_, rfl⟩, ?_⟩
    cases b <;> exact q
end
end GRB

/-! xs[::-1] of a list -/
namespace GR
open PySem PySem.Spec PyProof.Rows L2
def tBack (K : PySem.W.Frag) (te : TE) (tk : TO) : TE := fun σ H Q => te σ H fun v H1 => tk σ H1 fun o H2 => o = some (-1) ∧ ∃ a xs, v = .ref a ∧ SqL K H2 a xs ∧ ∀ p, H2 p = none → Q (.ref p) (upd H2 p (.lst xs.reverse))
theorem pe_back {X : Cx} {e st : Expr} {te : TE} {tk : TO} {p2 pos : Pos} (he : PE X e te) (hk : PO X (some st) tk) : PE X (.Subscript e (.Slice none none (some st) p2) pos) (tBack X.K te tk) := by
  refine ⟨fun pins s σ H Q I h => ?_⟩
  refine Subscript_ (thn (he.run pins s σ H _ I h) fun v s1 ⟨x, H1, I1, r1, q1⟩ => ?_)
  refine wpAny_Slice ?_
  rw [evalPart_none]
  refine wpAny_pure ?_
  refine wpAny_pure ?_
  refine thn (hk.run pins s1 σ H1 _ I1 q1) fun vk s2 ⟨o, H2, I2, pk, q2⟩ => ?_
  obtain ⟨rfl, a, xs, rfl, hx, q⟩ := q2
  have I4 : Inv X pins σ H2 { s2 with heap := s2.heap.push { cls := .type "slice", data := .fields #[.none, .none, vk] } } := I2.kept (t' := s2.toks) fun b ob q => Heap.get?_push_of_some _ q
  cases r1
  obtain ⟨its, r, ht, hz⟩ := I4.list hx
  have hlen := r.length
  have hs : ({ s2 with heap := s2.heap.push { cls := .type "slice", data := .fields #[.none, .none, vk] } } : Shared).heap.IsSliceOf s2.heap.objs.size .none .none vk := Heap.IsSliceOf.new ..
  have hg : wpAny (model X.prog X.w) X.A (getItem (.ref a) (.ref s2.heap.objs.size)) (EP X pins σ Q) X.xe { s2 with heap := s2.heap.push { cls := .type "slice", data := .fields #[.none, .none, vk] } } := by
    refine wpAny_getItem_list_slice ht.isList hs .none .none pk (by simp) ?_ (by rw [List.size_toArray] <;> omega)
    rw [PySem.W.krv_pick]
    refine ⟨.ref _, _, I4.laid (t' := s2.toks) (o := .lst xs.reverse) (fun b ob q => Heap.get?_push_of_some _ q) (Nat.le_refl _) ?_, rfl, q _ (I4.hok.fresh (Nat.le_refl _))⟩
    exact ⟨by rw [List.length_reverse]; exact hz, _, 0, r.reverse, Heap.get?_push_size _ rfl⟩
  show wpAny (model X.prog X.w) X.A (subscriptTail e (.Slice none none (some st) p2) (.ref a) (.ref s2.heap.objs.size)) (EP X pins σ Q) X.xe _
  exact tail_any (ops := [.ref a, .ref s2.heap.objs.size]) ht.isList.typeIs slot_list_getitem.lookup hg (by with_unfolding_all rfl)
end GR

set_option pp.maxSteps 900
/-! k96: the law's own defs -/
namespace N6Z
open PySem PySem.Spec PyProof.Rows L2 KA KD PH PM RM RN K52b K55 K55b K57 P5I P5P MM XE F5F F6W
open XT hiding pairs_get
open P5N (Mt nm)
abbrev sRG : Stmt := topS 31
abbrev sWI : Stmt := topS 32
abbrev sNX : Stmt := topS 33
abbrev sFA : Stmt := topS 34
abbrev sWE : Stmt := topS 35
abbrev sTR : Stmt := topS 36
theorem scRG : FnScope ["feed", "low"] ["feed"] (defScope sRG) := ⟨rfl, rfl, rfl, by decide +kernel, rfl, by decide +kernel, by decide +kernel⟩
theorem scWI : FnScope ["feed", "ranges", "found", "at", "low", "high", "turn"] ["feed", "ranges"] (defScope sWI) := ⟨rfl, rfl, rfl, by decide +kernel, rfl, by decide +kernel, by decide +kernel⟩
theorem scNX : FnScope ["feed", "ranges", "turn"] ["feed", "ranges"] (defScope sNX) := ⟨rfl, rfl, rfl, by decide +kernel, rfl, by decide +kernel, by decide +kernel⟩
theorem scFA : FnScope ["first", "second"] ["first", "second"] (defScope sFA) := ⟨rfl, rfl, rfl, by decide +kernel, rfl, by decide +kernel, by decide +kernel⟩
theorem scWE : FnScope ["entries", "ranges", "found", "low", "high", "start", "end", "amount"] ["entries", "ranges"] (defScope sWE) := ⟨rfl, rfl, rfl, by decide +kernel, rfl, by decide +kernel, by decide +kernel⟩
theorem scTR : FnScope ["feed", "lists", "words", "parts", "turn", "entries", "nth", "low", "high", "table", "wears", "at", "to", "part", "one"] ["feed", "lists", "words", "parts"] (defScope sTR) := ⟨rfl, rfl, rfl, by decide +kernel, rfl, by decide +kernel, by decide +kernel⟩
open K66 (NoF)
/-- there is no factor: the error is never raised -/
theorem no_bad {CN CT : Addr} {rs ss : List (Int × Int)} {H : Hp} {E : XK} (h : ¬ NoF rs ss) : Bad CN CT rs ss H E := fun V_ h1 _ h3 h4 => absurd ⟨V_, h1, h3, h4⟩ h
theorem fe_lst {H : Hp} {f : Addr} (fe : FeedAt H f) : ∃ acc, H f = some (.lst acc) := by
  obtain ⟨d, st, _, _, _, e⟩ := fe
  exact ⟨_, e⟩
theorem ch_tup {f t : Addr} {H H' : Hp} {xs : List V} (c : Ch f H H') (fe : FeedAt H f) (h : H t = some (.tup xs)) : H' t = some (.tup xs) := by
  refine c _ _ (fun z => ?_) h
  obtain ⟨acc, e⟩ := fe_lst fe
  rw [z, e] at h
  cases h
theorem pairs_mp {H H' : Hp} (e : ∀ p (a b : Int), H p = some (.tup [.int a, .int b]) → H' p = some (.tup [.int a, .int b])) : ∀ {xs : List V} {rs : List (Int × Int)}, PairsAt H xs rs → PairsAt H' xs rs
  | [], [], _ => trivial
  | x :: xs, r :: rs, ⟨⟨p, h1, h2⟩, h3⟩ => ⟨⟨p, h1, e p _ _ h2⟩, pairs_mp e h3⟩
  | [], _ :: _, h => h.elim
  | _ :: _, [], h => h.elim
theorem pairs_ch {f : Addr} {H H' : Hp} (c : Ch f H H') (hf : FeedAt H f) {xs : List V} {rs : List (Int × Int)} (h : PairsAt H xs rs) : PairsAt H' xs rs := pairs_mp (fun p a b e => ch_tup c hf e) h
theorem pairs_put {D : Addr} {H : Hp} {l l2 : List V} (e : H D = some (.lst l)) {xs : List V} {rs : List (Int × Int)} (h : PairsAt H xs rs) : PairsAt (upd H D (.lst l2)) xs rs :=
  pairs_mp (fun p a b e2 => by rw [upd_ne (fun z => by rw [z, e] at e2; cases e2)]; exact e2) h
theorem pairs_drop {H : Hp} : ∀ (n : Nat) {xs : List V} {rs : List (Int × Int)}, PairsAt H xs rs → PairsAt H (xs.drop n) (rs.drop n)
  | 0, _, _, h => h
  | _ + 1, [], [], _ => trivial
  | n + 1, _ :: _, _ :: _, ⟨_, h⟩ => pairs_drop n h
  | _ + 1, [], _ :: _, h => h.elim
  | _ + 1, _ :: _, [], h => h.elim
theorem pairs_rev {H : Hp} : ∀ {xs : List V} {rs : List (Int × Int)}, PairsAt H xs rs → PairsAt H xs.reverse rs.reverse
  | [], [], _ => trivial
  | x :: xs, r :: rs, ⟨h1, h⟩ => by
    rw [List.reverse_cons, List.reverse_cons]
    exact (pairs_rev h).append ⟨h1, trivial⟩
  | [], _ :: _, h => h.elim
  | _ :: _, [], h => h.elim
theorem cut_to (xs : List V) (k : Nat) : cutV xs none (some ((k : Nat) : Int)) = xs.take k := by
  unfold cutV
  rw [HT.sIx_none, HT.sIx_nat]
  simp only [Nat.sub_zero, List.drop_zero]
  rcases Nat.le_total k xs.length with h | h
  · rw [Nat.min_eq_left h]
  · rw [Nat.min_eq_right h, List.take_length, List.take_of_length_le h]
theorem cut_from (xs : List V) (k : Nat) : cutV xs (some ((k : Nat) : Int)) none = xs.drop k := by
  unfold cutV
  rw [HT.sIx_nat, HT.sIx_none]
  rcases Nat.le_total k xs.length with h | h
  · rw [Nat.min_eq_left h, List.take_of_length_le (by rw [List.length_drop]; omega)]
  · rw [Nat.min_eq_right h, Nat.sub_self, List.drop_eq_nil_of_le h]
    rfl
theorem small3 {n : Nat} (h : n ≤ 3000) : n < sizeLine := Nat.lt_of_le_of_lt h (by decide)
theorem amt_max {es : List Ent} (g : Good es) {lo hi m : Int} (hm : m ∈ (0 :: amts es lo hi)) (ha : ∀ y ∈ (0 :: amts es lo hi), y ≤ m) : amt es lo hi = m := by
  refine same_lt (amt_nonneg g lo hi) (ha 0 List.mem_cons_self) fun t ht => ?_
  unfold amt
  rw [top_lt _ ht]
  constructor
  · rintro ⟨x, hx, k⟩
    have := ha x (List.mem_cons_of_mem _ hx)
    omega
  · intro k
    rcases List.mem_cons.mp hm with e | e
    · omega
    · exact ⟨m, e, k⟩
theorem wear_take {es : List Ent} {rs : List (Int × Int)} {i : Nat} {r : Int × Int} (h : rs[i]? = some r) : wear es (rs.take (i + 1)) = wear es (rs.take i) + amt es r.1 r.2 := by
  rw [List.take_add_one, h]
  unfold wear
  rw [List.map_append, List.sum_append]
  show _ + ([amt es r.1 r.2] : List Int).sum = _
  rw [List.sum_cons, List.sum_nil, Int.add_zero]
/-- the factor that was found, or none -/
def FrV (H : Hp) (rs ss : List (Int × Int)) (v : V) : Prop := (∃ (p q : Nat) (V_ : List (Int × Int)) (a : Addr), v = .ref a ∧ H a = some (.tup [.int ((p : Nat) : Int), .int ((q : Nat) : Int)]) ∧ K65.Ft rs ss p q V_) ∨ (v = .non ∧ NoF rs ss)
theorem FrV.same {H H' : Hp} {rs ss : List (Int × Int)} {v : V} (h : FrV H rs ss v) (s : Same H H') : FrV H' rs ss v :=
  h.imp (fun ⟨p, q, V_, a, e, h1, h2⟩ => ⟨p, q, V_, a, e, s _ _ h1, h2⟩) id
theorem FrV.ch {f : Addr} {H H' : Hp} {rs ss : List (Int × Int)} {v : V} (h : FrV H rs ss v) (c : Ch f H H') (fe : FeedAt H f) : FrV H' rs ss v :=
  h.imp (fun ⟨p, q, V_, a, e, h1, h2⟩ => ⟨p, q, V_, a, e, ch_tup c fe h1, h2⟩) id
theorem FrV.yes {H : Hp} {rs ss : List (Int × Int)} {v : V} (h : FrV H rs ss v) (b : (!decide (v = V.non)) = true) : ∃ (p q : Nat) (V_ : List (Int × Int)) (a : Addr), v = .ref a ∧ H a = some (.tup [.int ((p : Nat) : Int), .int ((q : Nat) : Int)]) ∧ K65.Ft rs ss p q V_ := by
  rcases h with h | ⟨e, _⟩
  · exact h
  · rw [e] at b; cases b
theorem FrV.no {H : Hp} {rs ss : List (Int × Int)} {v : V} (h : FrV H rs ss v) (b : (!decide (v = V.non)) = false) : NoF rs ss := by
  rcases h with ⟨_, _, _, _, e, _⟩ | ⟨_, h⟩
  · rw [e] at b; cases b
  · exact h
theorem ft_small {rs ss : List (Int × Int)} {p q : Nat} {V_ : List (Int × Int)} (h : K65.Ft rs ss p q V_) (l1 : rs.length ≤ 12) (l2 : ss.length ≤ 12) : p ≤ 12 ∧ q ≤ 13 := by
  have := h.fr.le
  omega
theorem two_of {K : PySem.W.Frag} {H : Hp} {a b : Addr} {xs ys : List V} {rs ss : List (Int × Int)} (hA : H a = some (.lst xs)) (pa : PairsAt H xs rs) (hB : H b = some (.lst ys)) (pb : PairsAt H ys ss) (la : rs.length ≤ 12) (lb : ss.length ≤ 12) (lt : ∀ r ∈ rs, r.1 < r.2) : Two K H [.ref a, .ref b] rs ss := ⟨a, b, xs, ys, rfl, .inl (SqL.of hA), pa, .inl (SqL.of hB), pb, la, lb, lt⟩
theorem mk_tab2 {K : PySem.W.Frag} {C p : Addr} {H : Hp} {xs : List V} {T : List Ent} {R : Hp → Prop} {E : XK} (hp : Sq K H p xs) (tr : TripsAt H xs T) (le : T.length ≤ 500) {x dx : Addr} (nx : H x = none) (ndx : H dx = none) (ne : dx ≠ x) (q : ∀ H', Same H H' → TabAt H' C x T → R H') :
    spTI K C [V.ref x, V.ref p] (upd (upd H dx (HO.own x)) x (HO.ins C dx [])) (fun v H2 => v = V.non ∧ R H2) E := by
  have s2 : Same H (upd (upd H dx (.own x)) x (.ins C dx [])) := (same_new ndx).trans (same_new (by rw [upd_ne ne.symm]; exact nx))
  exact ⟨x, p, dx, xs, T, rfl, upd_same, hp.same s2, tr.same s2, le, fun H' keep tab => ⟨rfl, q H' (fun b o e => keep b o (ne_of_none e nx) (s2 _ _ e)) tab⟩⟩
theorem tw_of {K : PySem.W.Frag} {H : Hp} {C x a : Addr} {T : List Ent} {xs : List V} {rs : List (Int × Int)} {Q : VK} {E : XK} (tab : TabAt H C x T) (le : T.length ≤ 500) (h : H a = some (.lst xs)) (pa : PairsAt H xs rs) (l : rs.length ≤ 500) (q : ∀ H', Same H H' → Q (.int (wear T rs)) H') :
    spTWl K C [.ref x, .ref a] H Q E ∨ spTWt K C [.ref x, .ref a] H Q E := .inl ⟨x, a, T, xs, rs, rfl, tab, le, SqL.of h, pa, Nat.le_trans l (by decide), q⟩
section
variable {P : Program} {w : World} {K : PySem.W.Frag} {mg : Str → Option Value} {base : Heap}
def spRG : Sp := fun vs H Q _ => ∃ (f : Addr), vs = [.ref f] ∧ FeedAt H f ∧ ∀ H' p a b, Ch f H H' → FeedAt H' f → H p = none → H' p = some (.tup [.int a, .int b]) → a < b → Q (.ref p) H'
theorem ok_RG {f : Addr} {fd : FuncData} {fTA : Addr} {dTA : FuncData} {k : Nat} (F : Fun K "_law_range" "_law_range" sRG f fd) (GTA : FnOk P w K mg base CX0 (k + 1) fTA dTA ["feed", "many"] spTake) (gTA : mg "_law_take" = some (.ref fTA)) (kTA : PySem.W.keepIn K (.ref fTA) = true) (bTA : Binds K dTA ["feed", "many"] []) : FnOk P w K mg base CX0 (k + 2) f fd ["feed"] spRG := by
  refine F.ok scRG (fun vs H Q E h => ?_) (fun cdv A outer s H vs Q E hr h => ?_)
  · obtain ⟨f, rfl, _⟩ := h
    rfl
  · obtain ⟨f, rfl, fe, hq⟩ := h
    refine ⟨_, (pss_cons (ps_set (i := 1) scRG.nd rfl (.inl rfl) (pe_call (GTA.mono (show k + 1 ≤ k + 1 by omega)) hr (by rfl) gTA kTA bTA .nil pass0 (pa_cons (pv 0) (pa_cons pe_int pa_nil))))
      (pss_one (ps_ret (pe_tup (pa_cons (pv 1) (pa_cons (pe_op op_add (pe_op op_add (pv 1) pe_int) (pe_call (GTA.mono (show k + 1 ≤ k + 1 by omega)) hr (by rfl) gTA kTA bTA .nil pass0 (pa_cons (pv 0) (pa_cons pe_int pa_nil)))) pa_nil)))))), ?_⟩
    refine ⟨.ref f, rfl, f, 9, rfl, by decide, by decide, fe, fun H1 a c1 fe1 a0 a1 => ?_⟩
    refine ⟨.int a, rfl, .int a, rfl, a, 1, rfl, rfl, .ref f, rfl, f, 5, rfl, by decide, by decide, fe1, fun H2 b c2 fe2 b0 b1 => ⟨_, _, rfl, rfl, by show 2 ≤ sizeLine; decide, fun p np => ?_⟩⟩
    exact hq _ p a (a + 1 + b) ((c1.trans c2).trans (Ch.new np)) (fe2.same (same_new np)) ((c1.trans c2).free (fe2.ne np) np) upd_same (by omega)
def spWI : Sp := fun vs H Q _ => ∃ (f a : Addr) (xs : List V) (rs : List (Int × Int)), vs = [.ref f, .ref a] ∧ FeedAt H f ∧ a ≠ f ∧ H a = some (.lst xs) ∧ PairsAt H xs rs ∧ rs.length ≤ 20 ∧ (∀ r ∈ rs, r.1 < r.2) ∧
  ∀ H' p ys ss, Ch f H H' → FeedAt H' f → H p = none → H' p = some (.lst ys) → PairsAt H' ys ss → ss.length ≤ rs.length + 2 → (∀ r ∈ ss, r.1 < r.2) → Q (.ref p) H'
theorem ok_WI {f : Addr} {fd : FuncData} {fTA : Addr} {dTA : FuncData} {fRG : Addr} {dRG : FuncData} {k : Nat} (F : Fun K "_law_wider" "_law_wider" sWI f fd) (GTA : FnOk P w K mg base CX0 (k + 1) fTA dTA ["feed", "many"] spTake) (gTA : mg "_law_take" = some (.ref fTA)) (kTA : PySem.W.keepIn K (.ref fTA) = true) (bTA : Binds K dTA ["feed", "many"] []) (GRG : FnOk P w K mg base CX0 (k + 2) fRG dRG ["feed"] spRG) (gRG : mg "_law_range" = some (.ref fRG)) (kRG : PySem.W.keepIn K (.ref fRG) = true) (bRG : Binds K dRG ["feed"] []) (mr : mg "range" = none) (mlen : mg "len" = none) : FnOk P w K mg base CX0 (k + 3) f fd ["feed", "ranges"] spWI := by
  refine F.ok scWI (fun vs H Q E h => ?_) (fun cdv A outer s H vs Q E hr h => ?_)
  · obtain ⟨f, a, xs, rs, rfl, _⟩ := h
    rfl
  · obtain ⟨f, a, xs, rs, rfl, fe, naf, hA, pa, lr, lt, hq⟩ := h
    refine ⟨_, (pss_cons (ps_setLc (i := 2) (own := [("low", 4), ("high", 5)]) (g := gTup K 2 (gCons (gName 4) (gCons (gName 5) gNil))) (tt := tYes) (te := tTup (tCons (tOp (rI0 fun i j => V.int (i - j)) (tVar 4) (tCall spTake [] E0 (tCons (tVar 0) (tCons (tC (.int 3)) tNil)))) (tCons (tOp (rI0 fun i j => V.int (i + j)) (tVar 5) (tCall spTake [] E0 (tCons (tVar 0) (tCons (tC (.int 3)) tNil)))) tNil))) rfl scWI.nd rfl rfl (sw_true rfl rfl rfl (by decide +kernel)) (pi_list (pv 1)) (blkOk_by (own := [("low", 4), ("high", 5)]) (N := ["feed", "ranges", "found", "at", "low", "high", "turn"]) (sc := defScope sWI) (by decide +kernel)) (fun _ _ _ _ _ => (pg_tup rfl (pgs_cons (pg_name (i := 4) scWI.nd rfl (Or.inl rfl) (Or.inr rfl)) (pgs_cons (pg_name (i := 5) scWI.nd rfl (Or.inl rfl) (Or.inr rfl)) pgs_nil)))) (fun _ _ _ _ _ => pts_nil) (fun _ _ _ _ _ => (pe_tup (pa_cons (pe_op op_sub (pv 4) (pe_call (GTA.mono (show k + 1 ≤ k + 2 by omega)) hr (by rfl) gTA kTA bTA .nil pass0 (pa_cons (pv 0) (pa_cons pe_int pa_nil)))) (pa_cons (pe_op op_add (pv 5) (pe_call (GTA.mono (show k + 1 ≤ k + 2 by omega)) hr (by rfl) gTA kTA bTA .nil pass0 (pa_cons (pv 0) (pa_cons pe_int pa_nil)))) pa_nil)))))
      (pss_cons (ps_set (i := 2) scWI.nd rfl (.inl rfl) (pe_op op_cat (pv 2) (pe_lc (own := [("turn", 6)]) (g := gName 6) (tt := tYes) (te := tCall spRG [] E0 (tCons (tVar 0) tNil)) rfl scWI.nd (pi_range1 rfl mr (pa_cons (pe_call (GTA.mono (show k + 1 ≤ k + 2 by omega)) hr (by rfl) gTA kTA bTA .nil pass0 (pa_cons (pv 0) (pa_cons pe_int pa_nil))) pa_nil)) (blkOk_by (own := [("turn", 6)]) (N := ["feed", "ranges", "found", "at", "low", "high", "turn"]) (sc := defScope sWI) (by decide +kernel)) (fun _ _ _ _ _ => (pg_name (i := 6) scWI.nd rfl (Or.inl rfl) (Or.inr rfl))) (fun _ _ _ _ _ => pts_nil) (fun _ _ _ _ _ => (pe_call (GRG.mono (show k + 2 ≤ k + 2 by omega)) hr (by rfl) gRG kRG bRG .nil pass0 (pa_cons (pv 0) pa_nil))))))
      (pss_cons (ps_set (i := 3) scWI.nd rfl (.inl rfl) (pe_call (GTA.mono (show k + 1 ≤ k + 2 by omega)) hr (by rfl) gTA kTA bTA .nil pass0 (pa_cons (pv 0) (pa_cons (pe_op op_add (pe_callB call_len_seq (by rfl) mlen PySem.boot_len (pa_cons (pv 2) pa_nil)) pe_int) pa_nil))))
      (pss_one (ps_ret (GR.pe_back (pe_op op_cat (pe_slice sl_list (pv 2) (po_some (pv 3)) po_none) (pe_slice sl_list (pv 2) po_none (po_some (pv 3)))) (po_some (pe_un un_neg pe_int)))))))), ?_⟩
    have lx := pa.length
    have l2s : 2 ≤ sizeLine := by decide
    refine ⟨.ref a, rfl, a, rfl, ⟨_, SqL.of hA⟩, fun D nD => ?_⟩
    have nDf := fe.ne nD
    refine lc_list (K := K) (a := a) (xs := xs) (fun i Hz => Ch f H Hz ∧ FeedAt Hz f ∧ ∃ acc es, Hz D = some (.lst acc) ∧ PairsAt Hz acc es ∧ es.length = i ∧ ∀ r ∈ es, r.1 < r.2) ⟨Ch.of_same (same_new nD), fe.same (same_new nD), [], [], upd_same, trivial, rfl, fun _ z => (List.not_mem_nil z).elim⟩ (fun i Hz _ z => SqL.of (z.1 _ _ naf hA)) ?_ ?_
    · rintro i y Hz hy ⟨cz, fz, acc, es, eD, pz, le, blt⟩
      obtain ⟨q, r, rfl, er, hq2⟩ := XT.pairs_get pa hy
      have hr := lt r (List.mem_of_getElem? er)
      have hi : i < rs.length := (List.getElem?_eq_some_iff.mp er).1
      have hq3 := ch_tup cz fe hq2
      refine ⟨q, _, rfl, SqT.of hq3, rfl, .int r.1, [.int r.2], rfl, .int r.2, [], rfl, rfl, rfl, iteT (B := True) ?_⟩
      refine ⟨.int r.1, rfl, .ref f, rfl, f, 3, rfl, by decide, by decide, fz, fun H1 x c1 f1 x0 x1 => ⟨_, _, rfl, rfl, .int r.2, rfl, .ref f, rfl, f, 3, rfl, by decide, by decide, f1, fun H2 z c2 f2 z0 z1 => ⟨_, _, rfl, rfl, l2s, fun u nu => ?_⟩⟩⟩
      have su := same_new (o := .tup [V.int (r.1 - x), .int (r.2 + z)]) nu
      have cw : Ch f Hz (upd H2 u (.tup [V.int (r.1 - x), .int (r.2 + z)])) := (c1.trans c2).trans (Ch.of_same su)
      have eD2 := cw _ _ nDf eD
      have lp := pz.length
      refine ⟨acc, eD2, small3000 (by omega), Ch.again nD (cz.trans cw), (f2.same su).upd nDf, acc ++ [.ref u], es ++ [(r.1 - x, r.2 + z)], upd_same, pairs_put eD2 ((pairs_ch cw fz pz).append ⟨⟨u, rfl, upd_same⟩, trivial⟩), by rw [List.length_append, le]; rfl, fun s hs => ?_⟩
      rcases List.mem_append.mp hs with h | h
      · exact blt s h
      · rw [List.mem_singleton.mp h]; show r.1 - x < r.2 + z; omega
    rintro H1 ⟨c1, fe1, acc, es, eD, pz, le, blt⟩
    have le : es.length = xs.length := le
    -- more of them
    refine ⟨.ref D, rfl, .ref f, rfl, f, 3, rfl, by decide, by decide, fe1, fun H2 n c2 fe2 n0 n1 => ⟨n, rfl, by omega, by omega, fun D2 nD2 => ?_⟩⟩
    have nD2f := fe2.ne nD2
    refine lc_range (lo := 0) (n := n.toNat) (fun j Hz => Ch f H2 Hz ∧ FeedAt Hz f ∧ ∃ acc es, Hz D2 = some (.lst acc) ∧ PairsAt Hz acc es ∧ es.length = j ∧ ∀ r ∈ es, r.1 < r.2) ⟨Ch.of_same (same_new nD2), fe2.same (same_new nD2), [], [], upd_same, trivial, rfl, fun _ z => (List.not_mem_nil z).elim⟩ ?_ ?_
    · rintro j Hz hj ⟨cz, fz, acc, es, eD, pz, le, blt⟩
      refine ⟨rfl, iteT (B := True) ⟨.ref f, rfl, f, rfl, fz, fun H3 u x z c3 f3 nu hu hlt => ?_⟩⟩
      have eD2 := c3 _ _ nD2f eD
      have lp := pz.length
      refine ⟨acc, eD2, small3000 (by omega), Ch.again nD2 (cz.trans c3), f3.upd nD2f, acc ++ [.ref u], es ++ [(x, z)], upd_same, pairs_put eD2 ((pairs_ch c3 fz pz).append ⟨⟨u, rfl, hu⟩, trivial⟩), by rw [List.length_append, le]; rfl, fun s hs => ?_⟩
      rcases List.mem_append.mp hs with h | h
      · exact blt s h
      · rw [List.mem_singleton.mp h]; exact hlt
    rintro H3 ⟨c3, fe3, acc2, es2, eD2, pz2, le2, blt2⟩
    have c13 := c2.trans c3
    have eD := c13 _ _ nDf eD
    have pz := pairs_ch c13 fe1 pz
    have lp := pz.length
    have lp2 := pz2.length
    refine ⟨D, D2, acc, acc2, rfl, rfl, eD, eD2, Nat.le_of_lt (small3000 (by omega)), fun u nu => ?_⟩
    have su := same_new (o := .lst (acc ++ acc2)) nu
    have eu := upd_same (H := H3) (a := u) (o := .lst (acc ++ acc2))
    have nuf := fe3.ne nu
    have pu := (pz.append pz2).same su
    have fe4 := fe3.same su
    have c4 : Ch f H (upd H3 u (.lst (acc ++ acc2))) := (c1.trans c13).trans (Ch.of_same su)
    have ltu : ∀ r ∈ es ++ es2, r.1 < r.2 := fun r hr => (List.mem_append.mp hr).elim (blt r) (blt2 r)
    have lu : (es ++ es2).length ≤ rs.length + 2 := by rw [List.length_append]; omega
    generalize upd H3 u (.lst (acc ++ acc2)) = H4 at eu pu fe4 c4 ⊢
    generalize acc ++ acc2 = us at eu pu ⊢
    generalize es ++ es2 = vs at pu ltu lu
    clear blt blt2 pz pz2 eD eD2 c1 c2 c3 c13 fe1 fe2 fe3 su le le2 lp lp2
    have lus := pu.length
    refine ⟨.ref f, rfl, .ref u, rfl, u, us, rfl, .inl (SqL.of eu), _, 1, rfl, rfl, f, _, rfl, by omega, by omega, fe4, fun H5 at_ c5 fe5 a0 a1 => ?_⟩
    obtain ⟨k, rfl⟩ : ∃ k : Nat, at_ = (k : Int) := ⟨at_.toNat, by omega⟩
    have eu := c5 _ _ nuf eu
    have pu := pairs_ch c5 fe4 pu
    have c5 := c4.trans c5
    clear c4 fe4
    refine ⟨.ref u, rfl, .int (k : Int), rfl, _, rfl, u, us, rfl, SqL.of eu, fun w nw => ?_⟩
    rw [cut_from]
    have sw := same_new (o := .lst (us.drop k)) nw
    have ew := upd_same (H := H5) (a := w) (o := .lst (us.drop k))
    have eu2 := sw _ _ eu
    generalize upd H5 w (.lst (us.drop k)) = H6 at sw ew eu2 ⊢
    refine ⟨.ref u, rfl, .int (k : Int), rfl, _, rfl, u, us, rfl, SqL.of eu2, fun w2 nw2 => ?_⟩
    rw [cut_to]
    have sw2 := same_new (o := .lst (us.take k)) nw2
    have ew2 := upd_same (H := H6) (a := w2) (o := .lst (us.take k))
    have ew := sw2 _ _ ew
    generalize upd H6 w2 (.lst (us.take k)) = H7 at sw2 ew2 ew ⊢
    refine ⟨w, w2, _, _, rfl, rfl, ew, ew2, Nat.le_of_lt (small3000 (by rw [List.length_drop, List.length_take]; omega)), fun v nv => ?_⟩
    have sv := same_new (o := .lst (us.drop k ++ us.take k)) nv
    have ev := upd_same (H := H7) (a := v) (o := .lst (us.drop k ++ us.take k))
    have s57 := sw.trans (sw2.trans sv)
    have pv := ((pairs_drop k pu).append (pu.take k)).same s57
    generalize upd H7 v (.lst (us.drop k ++ us.take k)) = H8 at sv ev s57 pv ⊢
    refine ⟨1, rfl, _, rfl, rfl, v, _, rfl, SqL.of ev, fun z nz => ?_⟩
    have sz := same_new (o := .lst (us.drop k ++ us.take k).reverse) nz
    have s58 := s57.trans sz
    refine hq _ z _ (vs.drop k ++ vs.take k).reverse (c5.trans (Ch.of_same s58)) (fe5.same s58) (c5.free (fe5.ne (s57.free nz)) (s57.free nz)) upd_same (pairs_rev (pv.same sz)) ?_ fun r hr => ?_
    · rw [List.length_reverse, List.length_append, List.length_drop, List.length_take]; omega
    · have := List.mem_reverse.mp hr
      rcases List.mem_append.mp this with h | h
      · exact ltu r (List.mem_of_mem_drop h)
      · exact ltu r (List.mem_of_mem_take h)
def spNX : Sp := fun vs H Q _ => ∃ (f a : Addr) (xs : List V) (rs : List (Int × Int)), vs = [.ref f, .ref a] ∧ FeedAt H f ∧ a ≠ f ∧ H a = some (.lst xs) ∧ PairsAt H xs rs ∧ rs.length ≤ 20 ∧ (∀ r ∈ rs, r.1 < r.2) ∧
  ∀ H' p ys ss, Ch f H H' → FeedAt H' f → H p = none → H' p = some (.lst ys) → PairsAt H' ys ss → (ss.length ≤ rs.length + 2 ∨ ss.length ≤ 5) → (∀ r ∈ ss, r.1 < r.2) → Q (.ref p) H'
theorem ok_NX {f : Addr} {fd : FuncData} {fTA : Addr} {dTA : FuncData} {fRG : Addr} {dRG : FuncData} {fWI : Addr} {dWI : FuncData} {k : Nat} (F : Fun K "_law_next" "_law_next" sNX f fd) (GTA : FnOk P w K mg base CX0 (k + 1) fTA dTA ["feed", "many"] spTake) (gTA : mg "_law_take" = some (.ref fTA)) (kTA : PySem.W.keepIn K (.ref fTA) = true) (bTA : Binds K dTA ["feed", "many"] []) (GRG : FnOk P w K mg base CX0 (k + 2) fRG dRG ["feed"] spRG) (gRG : mg "_law_range" = some (.ref fRG)) (kRG : PySem.W.keepIn K (.ref fRG) = true) (bRG : Binds K dRG ["feed"] []) (GWI : FnOk P w K mg base CX0 (k + 3) fWI dWI ["feed", "ranges"] spWI) (gWI : mg "_law_wider" = some (.ref fWI)) (kWI : PySem.W.keepIn K (.ref fWI) = true) (bWI : Binds K dWI ["feed", "ranges"] []) (mr : mg "range" = none) : FnOk P w K mg base CX0 (k + 4) f fd ["feed", "ranges"] spNX := by
  refine F.ok scNX (fun vs H Q E h => ?_) (fun cdv A outer s H vs Q E hr h => ?_)
  · obtain ⟨f, a, xs, rs, rfl, _⟩ := h
    rfl
  · obtain ⟨f, a, xs, rs, rfl, fe, naf, hA, pa, lr, lt, hq⟩ := h
    refine ⟨_, (pss_cons (ps_if (pt_cmpR op_gt (pe_call (GTA.mono (show k + 1 ≤ k + 3 by omega)) hr (by rfl) gTA kTA bTA .nil pass0 (pa_cons (pv 0) (pa_cons pe_int pa_nil))) pe_int (nomark _)) (pss_one (ps_ret (pe_call (GWI.mono (show k + 3 ≤ k + 3 by omega)) hr (by rfl) gWI kWI bWI .nil pass0 (pa_cons (pv 0) (pa_cons (pv 1) pa_nil))))) pss_nil)
      (pss_one (ps_ret (pe_lc (own := [("turn", 2)]) (g := gName 2) (tt := tYes) (te := tCall spRG [] E0 (tCons (tVar 0) tNil)) rfl scNX.nd (pi_range1 rfl mr (pa_cons (pe_call (GTA.mono (show k + 1 ≤ k + 3 by omega)) hr (by rfl) gTA kTA bTA .nil pass0 (pa_cons (pv 0) (pa_cons pe_int pa_nil))) pa_nil)) (blkOk_by (own := [("turn", 2)]) (N := ["feed", "ranges", "turn"]) (sc := defScope sNX) (by decide +kernel)) (fun _ _ _ _ _ => (pg_name (i := 2) scNX.nd rfl (Or.inl rfl) (Or.inr rfl))) (fun _ _ _ _ _ => pts_nil) (fun _ _ _ _ _ => (pe_call (GRG.mono (show k + 2 ≤ k + 3 by omega)) hr (by rfl) gRG kRG bRG .nil pass0 (pa_cons (pv 0) pa_nil))))))), ?_⟩
    refine ⟨.ref f, rfl, f, 3, rfl, by decide, by decide, fe, fun H1 t c1 fe1 t0 t1 => ⟨t, 0, rfl, rfl, _, rfl, ?_⟩⟩
    have hA1 := c1 _ _ naf hA
    have pa1 := pairs_ch c1 fe pa
    refine ite2 (fun _ => ?_) (fun _ => ?_)
    · refine ⟨.ref f, rfl, .ref a, rfl, f, a, xs, rs, rfl, fe1, naf, hA1, pa1, lr, lt, fun H' p ys ss c fe' np hp ps ls lts => ?_⟩
      exact hq H' p ys ss (c1.trans c) fe' (c1.free (fe1.ne np) np) hp ps (.inl ls) lts
    refine ⟨.ref f, rfl, f, 6, rfl, by decide, by decide, fe1, fun H2 n c2 fe2 n0 n1 => ⟨n, rfl, by omega, by omega, fun D2 nD2 => ?_⟩⟩
    have nD2f := fe2.ne nD2
    refine lc_range (lo := 0) (n := n.toNat) (fun j Hz => Ch f H2 Hz ∧ FeedAt Hz f ∧ ∃ acc es, Hz D2 = some (.lst acc) ∧ PairsAt Hz acc es ∧ es.length = j ∧ ∀ r ∈ es, r.1 < r.2) ⟨Ch.of_same (same_new nD2), fe2.same (same_new nD2), [], [], upd_same, trivial, rfl, fun _ z => (List.not_mem_nil z).elim⟩ ?_ ?_
    · rintro j Hz hj ⟨cz, fz, acc, es, eD, pz, le, blt⟩
      refine ⟨rfl, iteT (B := True) ⟨.ref f, rfl, f, rfl, fz, fun H3 u x z c3 f3 nu hu hlt => ?_⟩⟩
      have eD2 := c3 _ _ nD2f eD
      have lp := pz.length
      refine ⟨acc, eD2, small3000 (by omega), Ch.again nD2 (cz.trans c3), f3.upd nD2f, acc ++ [.ref u], es ++ [(x, z)], upd_same, pairs_put eD2 ((pairs_ch c3 fz pz).append ⟨⟨u, rfl, hu⟩, trivial⟩), by rw [List.length_append, le]; rfl, fun s hs => ?_⟩
      rcases List.mem_append.mp hs with h | h
      · exact blt s h
      · rw [List.mem_singleton.mp h]; exact hlt
    rintro H3 ⟨c3, fe3, acc2, es2, eD2, pz2, le2, blt2⟩
    have c12 := c1.trans c2
    exact hq H3 D2 acc2 es2 (c12.trans c3) fe3 (c12.free nD2f nD2) eD2 pz2 (.inr (by omega)) blt2
structure FaAt (K : PySem.W.Frag) (vs : List V) (H : Hp) (Q : VK) : Prop where
  ex : ∃ rs ss, Two K H vs rs ss ∧ (∀ p q V_, K65.Ft rs ss p q V_ → ∀ H' f, Same H H' → H' f = some (.tup [.int ((p : Nat) : Int), .int ((q : Nat) : Int)]) → Q (.ref f) H') ∧ (NoF rs ss → ∀ H', Same H H' → Q .non H')
def spFA (K : PySem.W.Frag) : Sp := fun vs H Q _ => FaAt K vs H Q
theorem ok_FA {f : Addr} {fd : FuncData} {CN CT : Addr} {fF1 : Addr} {dF1 : FuncData} {k : Nat} (F : Fun K "_law_factor" "_law_factor" sFA f fd) (gN : mg "NoFactor" = some (.ref CN)) (exm : PySem.W.exmOne K (.ref CN) (.ref CN) = some true) (GF1 : FnOk P w K mg base (CX P w) (k + 10) fF1 dF1 ["first", "second"] (spF1 K CN CT)) (gF1 : mg "factor" = some (.ref fF1)) (kF1 : PySem.W.keepIn K (.ref fF1) = true) (bF1 : Binds K dF1 ["first", "second"] []) : FnOk P w K mg base CX0 (k + 11) f fd ["first", "second"] (spFA K) := by
  refine F.ok scFA (fun vs H Q E h => ?_) (fun cdv A outer s H vs Q E hr h => ?_)
  · obtain ⟨⟨rs, ss, ⟨a, b, xs, ys, rfl, _⟩, _⟩⟩ := h
    rfl
  · obtain ⟨⟨rs, ss, ⟨a, b, xs, ys, rfl, two⟩, hq, hn⟩⟩ := h
    refine ⟨_, (pss_one (ps_try_only (tb := fun W => tRet (tCallS (spF1 K CN CT) (WE W) (tCons (tVar 0) (tCons (tVar 1) tNil)))) (ts := fun a cls d => tRet (tC .non)) (Wout := fun _ _ _ _ => False) rfl rfl ⟨rfl, by decide, Or.inl gN⟩ takes0
        (fun W pn xe tk _ => pss_one (ps_ret (by exact (pe_callS (GF1.mono (show k + 10 ≤ k + 10 by omega)) hr rfl gF1 kF1 bF1 (fun σ => passAt tk σ) (by exact (pa_cons (pv 0) (pa_cons (pv 1) pa_nil)))))))
        (fun a oe cls d pn hz hf => pss_one (ps_ret (by exact pe_non))))), ?_⟩
    exact ⟨.ref a, rfl, .ref b, rfl, rs, ss, ⟨a, b, xs, ys, rfl, two⟩, fun p q V_ ft H' f s h => hq p q V_ ft H' f s h, fun V_ h1 h2 h3 h4 H' dx t s tab ndx => ⟨true, exm, fun _ ae nae => hn ⟨V_, h1, h3, h4⟩ _ (s.trans (same_new ndx)), fun z => nomatch z⟩⟩
def spWE : Sp := fun vs H Q _ => ∃ (e a : Addr) (xs ys : List V) (es : List Ent) (rs : List (Int × Int)), vs = [.ref e, .ref a] ∧ H e = some (.lst xs) ∧ TripsAt H xs es ∧ Good es ∧ es.length ≤ 200 ∧ H a = some (.lst ys) ∧ PairsAt H ys rs ∧ rs.length ≤ 500 ∧ ∀ H', Same H H' → Q (.int (wear es rs)) H'
theorem ok_WE {f : Addr} {fd : FuncData} {k : Nat} (F : Fun K "_law_wear" "_law_wear" sWE f fd) (mmx : mg "max" = none) : FnOk P w K mg base CX0 (k + 2) f fd ["entries", "ranges"] spWE := by
  refine F.ok scWE (fun vs H Q E h => ?_) (fun cdv A outer s H vs Q E hr h => ?_)
  · obtain ⟨e, a, xs, ys, es, rs, rfl, _⟩ := h
    rfl
  · obtain ⟨e, a, xs, ys, es, rs, rfl, hE, tr, gd, le, hA, pa, lr, hq⟩ := h
    refine ⟨_, (pss_cons (ps_set (i := 2) scWE.nd rfl (.inl rfl) pe_int)
      (pss_cons (ps_for PassesOwn.never rfl (pi_list (pv 1)) (pg_tup rfl (pgs_cons (pg_name (i := 3) scWE.nd rfl (.inr rfl)) (pgs_cons (pg_name (i := 4) scWE.nd rfl (.inr rfl)) pgs_nil)))
      (pss_one (ps_set (i := 2) scWE.nd rfl (.inl rfl) (pe_op op_add (pv 2) (pe_callB (GU.cr_maxS rfl) (by rfl) mmx (by decide +kernel) (pa_cons (pe_op op_cat (pe_lst (pa_cons pe_int pa_nil)) (pe_lc (own := [("start", 5), ("end", 6), ("amount", 7)]) (g := gTup K 3 (gCons (gName 5) (gCons (gName 6) (gCons (gName 7) gNil))))  (te := tVar 7) rfl scWE.nd (pi_list (pv 0)) (blkOk_by (own := [("start", 5), ("end", 6), ("amount", 7)]) (N := ["entries", "ranges", "found", "low", "high", "start", "end", "amount"]) (sc := defScope sWE) (by decide +kernel)) (fun _ _ _ _ _ => (pg_tup rfl (pgs_cons (pg_name (i := 5) scWE.nd rfl (Or.inl rfl) (Or.inr rfl)) (pgs_cons (pg_name (i := 6) scWE.nd rfl (Or.inl rfl) (Or.inr rfl)) (pgs_cons (pg_name (i := 7) scWE.nd rfl (Or.inl rfl) (Or.inr rfl)) pgs_nil))))) (fun _ _ _ _ _ => pts_one (PW.pt (pw_and (pt_cmpR op_le (pv 3) (pv 5) (nomark _)) (pw_and1 (pt_cmpR op_le (pv 6) (pv 4) (nomark _)))))) (fun _ _ _ _ _ => (pv 7)))) pa_nil))))))
      (pss_one (ps_ret (pv 2))))), ?_⟩
    have ll := tr.length
    have lp := pa.length
    refine ⟨.ref a, rfl, a, rfl, ⟨_, SqL.of hA⟩, for_list (K := K) (a := a) (xs := ys) (fun i σ Hz => Same H Hz ∧ ∃ r3 r4 r5 r6 r7 : Option V, σ = [some (.ref e), some (.ref a), some (.int (wear es (rs.take i))), r3, r4, r5, r6, r7]) ⟨Same.refl H, _, _, _, _, _, rfl⟩ (fun i σ Hz _ z => SqL.of (z.1 _ _ hA)) ?_ ?_⟩
    · rintro i y σ Hz hy ⟨sz, r3, r4, r5, r6, r7, rfl⟩
      obtain ⟨p, r, rfl, er, hp⟩ := XT.pairs_get pa hy
      refine ⟨p, _, rfl, SqT.of (sz _ _ hp), rfl, .int r.1, [.int r.2], rfl, .int r.2, [], rfl, rfl, ?_⟩
      refine ⟨.int (wear es (rs.take i)), rfl, by show 1 ≤ sizeLine; decide, fun l nl => ?_⟩
      have sl := same_new (o := .lst [.int 0]) nl
      have el := upd_same (H := Hz) (a := l) (o := .lst [.int 0])
      have s1 := sz.trans sl
      generalize upd Hz l (.lst [.int 0]) = H1 at sl el s1 ⊢
      refine ⟨.ref e, rfl, e, rfl, ⟨_, SqL.of (s1 _ _ hE)⟩, fun D nD => ?_⟩
      refine lc_list (K := K) (a := e) (xs := xs) (fun j Hw => Same H1 Hw ∧ Hw D = some (.lst ((amts (es.take j) r.1 r.2).map V.int))) ⟨same_new nD, upd_same⟩ (fun j Hw _ z => SqL.of (z.1 _ _ (s1 _ _ hE))) ?_ ?_
      · rintro j z Hw hz ⟨sw, eD⟩
        obtain ⟨q, en, rfl, ee, hq2⟩ := tr.get hz
        have s2 := s1.trans sw
        have st := amts_take (lo := r.1) (hi := r.2) ee
        have la := amts_len (es.take j) r.1 r.2
        rw [List.length_take] at la
        refine ⟨q, _, rfl, SqT.of (s2 _ _ hq2), rfl, .int en.1, [.int en.2.1, .int en.2.2], rfl, .int en.2.1, [.int en.2.2], rfl, .int en.2.2, [], rfl, rfl, rfl, ?_⟩
        refine ⟨.int r.1, rfl, .int en.1, rfl, r.1, en.1, rfl, rfl, _, rfl, ?_⟩
        have no : has r.1 r.2 en = false → Same H1 Hw ∧ Hw D = some (.lst ((amts (es.take (j + 1)) r.1 r.2).map V.int)) := fun k => by
          rw [k, if_neg (by simp), List.append_nil] at st
          exact ⟨sw, by rw [st]; exact eD⟩
        by_cases h1 : r.1 ≤ en.1
        · rw [decide_eq_true h1]
          refine iteT ⟨.int en.2.1, rfl, .int r.2, rfl, en.2.1, r.2, rfl, rfl, _, rfl, ?_⟩
          by_cases h2 : en.2.1 ≤ r.2
          · rw [decide_eq_true h2]
            have k : has r.1 r.2 en = true := by
              show (decide (r.1 ≤ en.1) && decide (en.2.1 ≤ r.2)) = true
              rw [decide_eq_true h1, decide_eq_true h2]; rfl
            rw [k, if_pos rfl] at st
            refine iteT ⟨.int en.2.2, rfl, _, eD, ?_, same_again nD sw, ?_⟩
            · rw [List.length_map]; exact small3 (by omega)
            · rw [upd_same, st, List.map_append]; rfl
          · rw [decide_eq_false h2]
            refine iteF (no ?_)
            show (decide (r.1 ≤ en.1) && decide (en.2.1 ≤ r.2)) = false
            rw [decide_eq_false h2, Bool.and_false]
        · rw [decide_eq_false h1]
          refine iteF (iteF (no ?_))
          show (decide (r.1 ≤ en.1) && decide (en.2.1 ≤ r.2)) = false
          rw [decide_eq_false h1, Bool.false_and]
      rintro H2 ⟨s2, eD⟩
      rw [ll, List.take_length] at eD
      have la := amts_len es r.1 r.2
      refine ⟨l, D, _, _, rfl, rfl, s2 _ _ el, eD, by rw [List.length_map]; exact Nat.le_trans (show 1 + (amts es r.1 r.2).length ≤ 3000 by omega) (by decide), fun m nm => ?_⟩
      have sm := same_new (o := .lst ([V.int 0] ++ (amts es r.1 r.2).map V.int)) nm
      refine ⟨m, 0 :: amts es r.1 r.2, rfl, .inl (SqL.of upd_same), Nat.succ_pos _, fun mx hm hall => ?_⟩
      refine ⟨_, _, rfl, rfl, ?_⟩
      show Same H _ ∧ ∃ r3 r4 r5 r6 r7 : Option V, _ = [some (.ref e), some (.ref a), some (.int (wear es (rs.take (i + 1)))), r3, r4, r5, r6, r7]
      rw [wear_take er, amt_max gd hm hall]
      exact ⟨s1.trans (s2.trans sm), _, _, _, _, _, rfl⟩
    rintro σ Hz ⟨sz, r3, r4, r5, r6, r7, rfl⟩
    rw [lp, List.take_length]
    exact ⟨_, rfl, hq _ sz⟩
end
end N6Z

set_option pp.maxSteps 900
/-! k96: wears under tables go with words and factors -/
namespace N6K
open PySem PySem.Spec PyProof.Rows L2 KA KD PH PM RM RN K52b K55 K55b K57 P5I P5P MM XE F5F F6W N6Z
open XT hiding pairs_get
open P5N (Mt nm)
open K66 (NoF)
theorem scTR : FnScope ["feed", "lists", "words", "parts", "turn", "entries", "nth", "low", "high", "table", "wears", "at", "to", "part", "one"] ["feed", "lists", "words", "parts"] (defScope sTR) := ⟨rfl, rfl, rfl, by decide +kernel, rfl, by decide +kernel, by decide +kernel⟩
/-- three lists of ranges at addresses of their own -/
structure Lst3 (f : Addr) (H : Hp) (a : Addr) (A : List (Int × Int)) : Prop where
  ne : a ≠ f
  at_ : ∃ xs, H a = some (.lst xs) ∧ PairsAt H xs A
  len : A.length ≤ 12
  lt : ∀ r ∈ A, r.1 < r.2
theorem Lst3.ch {f a : Addr} {H H' : Hp} {A : List (Int × Int)} (h : Lst3 f H a A) (c : Ch f H H') (fe : FeedAt H f) : Lst3 f H' a A := by
  obtain ⟨h1, ⟨xs, h2, h3⟩, h4, h5⟩ := h
  exact ⟨h1, ⟨xs, c _ _ h1 h2, pairs_ch c fe h3⟩, h4, h5⟩
theorem Lst3.same {f a : Addr} {H H' : Hp} {A : List (Int × Int)} (h : Lst3 f H a A) (s : Same H H') : Lst3 f H' a A := by
  obtain ⟨h1, ⟨xs, h2, h3⟩, h4, h5⟩ := h
  exact ⟨h1, ⟨xs, s _ _ h2, h3.same s⟩, h4, h5⟩
/-- the lists, what never wears more, and the factors -/
def Three (f : Addr) (H : Hp) (la wa pa : Addr) (ls ws ps : List V) : Prop := ∃ (a b c : Addr) (A B C : List (Int × Int)) (v1 v2 v3 : V), ls = [.ref a, .ref b, .ref c] ∧ ws = [.bl (nm A B), .bl (nm A C), .bl (nm B C)] ∧ ps = [v1, v2, v3] ∧
  la ≠ f ∧ wa ≠ f ∧ pa ≠ f ∧ H la = some (.lst ls) ∧ H wa = some (.lst ws) ∧ H pa = some (.lst ps) ∧ Lst3 f H a A ∧ Lst3 f H b B ∧ Lst3 f H c C ∧ FrV H A B v1 ∧ FrV H A C v2 ∧ FrV H B C v3
theorem Three.ch {f : Addr} {H H' : Hp} {la wa pa : Addr} {ls ws ps : List V} (h : Three f H la wa pa ls ws ps) (c : Ch f H H') (fe : FeedAt H f) : Three f H' la wa pa ls ws ps := by
  obtain ⟨a, b, d, A, B, C, v1, v2, v3, e1, e2, e3, n1, n2, n3, h1, h2, h3, l1, l2, l3, f1, f2, f3⟩ := h
  exact ⟨a, b, d, A, B, C, v1, v2, v3, e1, e2, e3, n1, n2, n3, c _ _ n1 h1, c _ _ n2 h2, c _ _ n3 h3, l1.ch c fe, l2.ch c fe, l3.ch c fe, f1.ch c fe, f2.ch c fe, f3.ch c fe⟩
theorem Three.same {f : Addr} {H H' : Hp} {la wa pa : Addr} {ls ws ps : List V} (h : Three f H la wa pa ls ws ps) (s : Same H H') : Three f H' la wa pa ls ws ps := by
  obtain ⟨a, b, d, A, B, C, v1, v2, v3, e1, e2, e3, n1, n2, n3, h1, h2, h3, l1, l2, l3, f1, f2, f3⟩ := h
  exact ⟨a, b, d, A, B, C, v1, v2, v3, e1, e2, e3, n1, n2, n3, s _ _ h1, s _ _ h2, s _ _ h3, l1.same s, l2.same s, l3.same s, f1.same s, f2.same s, f3.same s⟩
theorem joinP {R A B : Prop} {c : Bool} (h1 : c = true → R → A) (h2 : c = false → R → B) (k : R) : if c = true then A else B := by
  cases c with
  | true => exact iteT (h1 rfl k)
  | false => exact iteF (h2 rfl k)
theorem l3_at {f : Addr} {H : Hp} {a b c : Addr} {A B C : List (Int × Int)} (l1 : Lst3 f H a A) (l2 : Lst3 f H b B) (l3 : Lst3 f H c C) {i : Nat} {y : V} (h : [V.ref a, .ref b, .ref c][i]? = some y) : ∃ d D_, y = .ref d ∧ [A, B, C][i]? = some D_ ∧ Lst3 f H d D_ := by
  match i, h with
  | 0, h => exact ⟨a, A, (Option.some.inj h).symm, rfl, l1⟩
  | 1, h => exact ⟨b, B, (Option.some.inj h).symm, rfl, l2⟩
  | 2, h => exact ⟨c, C, (Option.some.inj h).symm, rfl, l3⟩
  | n + 3, h => simp at h
/-- one of the three pairs of places -/
def Pl (H : Hp) (L3 : List (List (Int × Int))) (ws ps : List V) (y : V) : Prop := ∃ (p : Addr) (i j k : Nat) (X Y : List (Int × Int)) (v : V), y = .ref p ∧ H p = some (.tup [.int (i : Int), .int (j : Int)]) ∧ i + j = k + 1 ∧ L3[i]? = some X ∧ L3[j]? = some Y ∧ ws[k]? = some (.bl (nm X Y)) ∧ ps[k]? = some v ∧ FrV H X Y v ∧ X.length ≤ 12 ∧ Y.length ≤ 12
theorem Pl.same {H H' : Hp} {L3 : List (List (Int × Int))} {ws ps : List V} {y : V} (h : Pl H L3 ws ps y) (s : Same H H') : Pl H' L3 ws ps y := by
  obtain ⟨p, i, j, k, X, Y, v, e, h1, h2, h3, h4, h5, h6, h7, h8⟩ := h
  exact ⟨p, i, j, k, X, Y, v, e, s _ _ h1, h2, h3, h4, h5, h6, h7.same s, h8⟩
theorem wear_at {es : List Ent} {L3 : List (List (Int × Int))} {i : Nat} {X : List (Int × Int)} (h : L3[i]? = some X) : ((L3.map (wear es)).map V.int)[i]? = some (.int (wear es X)) := by
  rw [List.getElem?_map, List.getElem?_map, h]
  rfl
section
variable {P : Program} {w : World} {K : PySem.W.Frag} {mg : Str → Option Value} {base : Heap}
def spTR : Sp := fun vs H Q _ => ∃ (f la wa pa : Addr) (ls ws ps : List V), vs = [.ref f, .ref la, .ref wa, .ref pa] ∧ FeedAt H f ∧ Three f H la wa pa ls ws ps ∧ ∀ H', Ch f H H' → FeedAt H' f → Q (.bl true) H'
theorem ok_TR {f : Addr} {fd : FuncData} {CT fTI fUW : Addr} {dTI dUW : FuncData} {fTA : Addr} {dTA : FuncData} {fRG : Addr} {dRG : FuncData} {fWE : Addr} {dWE : FuncData} {k : Nat} (F : Fun K "_law_tables_right" "_law_tables_right" sTR f fd) (GTA : FnOk P w K mg base CX0 (k + 1) fTA dTA ["feed", "many"] spTake) (gTA : mg "_law_take" = some (.ref fTA)) (kTA : PySem.W.keepIn K (.ref fTA) = true) (bTA : Binds K dTA ["feed", "many"] []) (GRG : FnOk P w K mg base CX0 (k + 2) fRG dRG ["feed"] spRG) (gRG : mg "_law_range" = some (.ref fRG)) (kRG : PySem.W.keepIn K (.ref fRG) = true) (bRG : Binds K dRG ["feed"] []) (GWE : FnOk P w K mg base CX0 (k + 2) fWE dWE ["entries", "ranges"] spWE) (gWE : mg "_law_wear" = some (.ref fWE)) (kWE : PySem.W.keepIn K (.ref fWE) = true) (bWE : Binds K dWE ["entries", "ranges"] []) (gT : mg "Table" = some (.ref CT)) (tbl : Tbl K CT) (mkt : Mk K CT fTI) (GTI : FnOk P w K mg base CX0 (k + 1) fTI dTI ["self", "entries"] (spTI K CT)) (bTI : Binds K dTI ["self", "entries"] [])
  (mUW : Meth K CT "wear" fUW) (GUW : FnOk P w K mg base CX0 (k + 3) fUW dUW ["self", "ranges"] (fun vs H Q E => spTWl K CT vs H Q E ∨ spTWt K CT vs H Q E)) (bUW : Binds K dUW ["self", "ranges"] []) (mr : mg "range" = none) : FnOk P w K mg base CX0 (k + 5) f fd ["feed", "lists", "words", "parts"] spTR := by
  refine F.ok scTR (fun vs H Q E h => ?_) (fun cdv A outer s H vs Q E hr h => ?_)
  · obtain ⟨f, la, wa, pa, ls, ws, ps, rfl, _⟩ := h
    rfl
  · obtain ⟨f, la, wa, pa, ls, ws, ps, rfl, fe, h3, hq⟩ := h
    refine ⟨_, (pss_cons (ps_for PassesOwn.never rfl (pi_range1 rfl mr (pa_cons pe_int pa_nil)) (pg_name (i := 4) scTR.nd rfl (.inl rfl))
      (pss_cons (ps_set (i := 5) scTR.nd rfl (.inr rfl) (pe_lst pa_nil))
      (pss_cons (ps_for PassesOwn.never rfl (pi_range1 rfl mr (pa_cons (pe_call (GTA.mono (show k + 1 ≤ k + 4 by omega)) hr (by rfl) gTA kTA bTA .nil pass0 (pa_cons (pv 0) (pa_cons pe_int pa_nil))) pa_nil)) (pg_name (i := 6) scTR.nd rfl (.inl rfl))
      (pss_cons (ps_asg (pe_call (GRG.mono (show k + 2 ≤ k + 4 by omega)) hr (by rfl) gRG kRG bRG .nil pass0 (pa_cons (pv 0) pa_nil)) (pg_tup rfl (pgs_cons (pg_name (i := 7) scTR.nd rfl (.inl rfl)) (pgs_cons (pg_name (i := 8) scTR.nd rfl (.inl rfl)) pgs_nil))))
      (pss_one (ps_expr (pe_bm PySem.F.plainAttrs_list PySem.F.slot_list_append PySem.F.type_list_append mt_append (pv 5) (pa_cons (pe_tup (pa_cons (pv 7) (pa_cons (pv 8) (pa_cons (pe_call (GTA.mono (show k + 1 ≤ k + 4 by omega)) hr (by rfl) gTA kTA bTA .nil pass0 (pa_cons (pv 0) (pa_cons pe_int pa_nil))) pa_nil)))) pa_nil))))))
      (pss_cons (ps_asg (pe_tup (pa_cons (pe_make mkt (GTI.mono (show k + 1 ≤ k + 3 by omega)) hr (by rfl) gT bTI .nil pass0 (pa_cons (pv 5) pa_nil)) (pa_cons (pe_lc (own := [("one", 14)]) (g := gName 14) (tt := tYes) (te := tCall spWE [] E0 (tCons (tVar 5) (tCons (tVar 14) tNil))) rfl scTR.nd (pi_list (pv 1)) (blkOk_by (own := [("one", 14)]) (N := ["feed", "lists", "words", "parts", "turn", "entries", "nth", "low", "high", "table", "wears", "at", "to", "part", "one"]) (sc := defScope sTR) (by decide +kernel)) (fun _ _ _ _ _ => (pg_name (i := 14) scTR.nd rfl (Or.inl rfl) (Or.inr rfl))) (fun _ _ _ _ _ => pts_nil) (fun _ _ _ _ _ => (pe_call (GWE.mono (show k + 2 ≤ k + 4 by omega)) hr (by rfl) gWE kWE bWE .nil pass0 (pa_cons (pv 5) (pa_cons (pv 14) pa_nil))))) pa_nil))) (pg_tup rfl (pgs_cons (pg_name (i := 9) scTR.nd rfl (.inr rfl)) (pgs_cons (pg_name (i := 10) scTR.nd rfl (.inl rfl)) pgs_nil))))
      (pss_cons (ps_if (pt_cmpR (op_neD hr.units) (pe_lc (own := [("one", 14)]) (g := gName 14) (tt := tYes) (te := tMeth CT "wear" (fun vs H Q E => spTWl K CT vs H Q E ∨ spTWt K CT vs H Q E) [] E0 (tVar 9) (tCons (tVar 14) tNil)) rfl scTR.nd (pi_list (pv 1)) (blkOk_by (own := [("one", 14)]) (N := ["feed", "lists", "words", "parts", "turn", "entries", "nth", "low", "high", "table", "wears", "at", "to", "part", "one"]) (sc := defScope sTR) (by decide +kernel)) (fun _ _ _ _ _ => (pg_name (i := 14) scTR.nd rfl (Or.inl rfl) (Or.inr rfl))) (fun _ _ _ _ _ => pts_nil) (fun _ _ _ _ _ => (pe_meth (pv 9) tbl.cl mUW (GUW.mono (show k + 3 ≤ k + 4 by omega)) hr bUW .nil pass0 (pa_cons (pv 14) pa_nil)))) (pv 10) (nomark _)) (pss_one (ps_ret pe_bl)) pss_nil)
      (pss_one (ps_for PassesOwn.never rfl (pi_tup (pe_tup (pa_cons (pe_tup (pa_cons pe_int (pa_cons pe_int pa_nil))) (pa_cons (pe_tup (pa_cons pe_int (pa_cons pe_int pa_nil))) (pa_cons (pe_tup (pa_cons pe_int (pa_cons pe_int pa_nil))) pa_nil))))) (pg_tup rfl (pgs_cons (pg_name (i := 11) scTR.nd rfl (.inl rfl)) (pgs_cons (pg_name (i := 12) scTR.nd rfl (.inl rfl)) pgs_nil)))
      (pss_cons (ps_if (PW.pt (pw_and (pt_val (pe_ix ix_list (pv 2) (pe_op op_sub (pe_op op_add (pv 11) (pv 12)) pe_int) (fun _ _ => rfl))) (pw_and1 (pt_cmpR op_gt (pe_ix ix_list (pv 10) (pv 11) (fun _ _ => rfl)) (pe_ix ix_list (pv 10) (pv 12) (fun _ _ => rfl)) (nomark _))))) (pss_one (ps_ret pe_bl)) pss_nil)
      (pss_cons (ps_set (i := 13) scTR.nd rfl (.inl rfl) (pe_ix ix_list (pv 3) (pe_op op_sub (pe_op op_add (pv 11) (pv 12)) pe_int) (fun _ _ => rfl)))
      (pss_one (ps_if (PW.pt (pw_and (pt_cmpR op_notN (pv 13) pe_non (nomark _)) (pw_and1 (pt_cmpR op_gt (pe_op op_mul (pe_ix ix_tup (pv 13) pe_int (fun _ _ => rfl)) (pe_ix ix_list (pv 10) (pv 11) (fun _ _ => rfl))) (pe_op op_mul (pe_ix ix_tup (pv 13) pe_int (fun _ _ => rfl)) (pe_ix ix_list (pv 10) (pv 12) (fun _ _ => rfl))) (nomark _))))) (pss_one (ps_ret pe_bl)) pss_nil)))))))))))
      (pss_one (ps_ret pe_bl))), ?_⟩
    obtain ⟨a, b, c, A1, B1, C1, v1, v2, v3, rfl, rfl, rfl, nla, nwa, npa, -⟩ := id h3
    have l2s : 2 ≤ sizeLine := by decide
    have l3s : 3 ≤ sizeLine := by decide
    refine ⟨4, rfl, by decide, by decide, for_range (lo := 0) (n := (4 : Int).toNat) (fun i σ Hz => Ch f H Hz ∧ FeedAt Hz f ∧ ∃ r4 r5 r6 r7 r8 r9 r10 r11 r12 r13 r14 : Option V, σ = [some (.ref f), some (.ref la), some (.ref wa), some (.ref pa), r4, r5, r6, r7, r8, r9, r10, r11, r12, r13, r14]) ⟨Ch.refl _ _, fe, _, _, _, _, _, _, _, _, _, _, _, rfl⟩ ?_ ?_⟩
    · rintro i σ H0 hi ⟨c0, fe0, r4, r5, r6, r7, r8, r9, r10, r11, r12, r13, r14, rfl⟩
      -- entries
      refine ⟨Nat.zero_le _, fun E1 nE => ?_⟩
      have nEf := fe0.ne nE
      have sE := same_new (o := .lst []) nE
      have eE := upd_same (H := H0) (a := E1) (o := .lst [])
      have feE := fe0.same sE
      have cE : Ch f H0 (upd H0 E1 (.lst [])) := Ch.of_same sE
      generalize upd H0 E1 (.lst []) = Ha at eE feE cE ⊢
      refine ⟨.ref f, rfl, f, 5, rfl, by decide, by decide, feE, fun H1 n c1 fe1 n0 n1 => ⟨n, rfl, by omega, by omega, for_range (lo := 0) (n := n.toNat) (fun j σ Hz => Ch f H0 Hz ∧ FeedAt Hz f ∧ ∃ acc es, Hz E1 = some (.lst acc) ∧ TripsAt Hz acc es ∧ Good es ∧ es.length = j ∧ ∃ r4 r6 r7 r8 r9 r10 r11 r12 r13 r14 : Option V, σ = [some (.ref f), some (.ref la), some (.ref wa), some (.ref pa), r4, some (.ref E1), r6, r7, r8, r9, r10, r11, r12, r13, r14]) ⟨cE.trans c1, fe1, [], [], c1 _ _ nEf eE, trivial, fun _ z => (List.not_mem_nil z).elim, rfl, _, _, _, _, _, _, _, _, _, _, rfl⟩ ?_ ?_⟩⟩
      · rintro j σ Hz hj ⟨cz, fz, acc, es, eE, tr, gd, le, r4, r6, r7, r8, r9, r10, r11, r12, r13, r14, rfl⟩
        refine ⟨.ref f, rfl, f, rfl, fz, fun H2 p x y c2 fe2 np hp hxy => ⟨p, _, rfl, SqT.of hp, rfl, .int x, [.int y], rfl, .int y, [], rfl, rfl, ?_⟩⟩
        have eE2 := c2 _ _ nEf eE
        refine ⟨.ref E1, rfl, .inl ⟨rfl, _, SqL.of eE2⟩, .int x, rfl, .int y, rfl, .ref f, rfl, f, 9, rfl, by decide, by decide, fe2, fun H3 am c3 fe3 am0 _ => ⟨l3s, fun u nu => ?_⟩⟩
        have su := same_new (o := tri (x, y, am)) nu
        have cw : Ch f Hz (upd H3 u (tri (x, y, am))) := (c2.trans c3).trans (Ch.of_same su)
        have eE3 := cw _ _ nEf eE
        have ltr := tr.length
        refine ⟨E1, acc, .ref u, rfl, rfl, eE3, small3000 (by omega), ?_⟩
        refine ⟨Ch.again nE (cz.trans cw), (fe3.same su).upd nEf, acc ++ [.ref u], es ++ [(x, y, am)], upd_same, ?_, gd.app (good_one ⟨hxy, am0⟩), by rw [List.length_append, le]; rfl, _, _, _, _, _, _, _, _, _, _, rfl⟩
        exact ((tr.ch cw (fe_lst fz)).app (trips_one (e := (x, y, am)) upd_same)).but (fun b o n e => by rw [upd_ne n]; exact e) eE3
      rintro σ H2 ⟨c2, fe2, acc, es, eE, tr, gd, le, r4, r6, r7, r8, r9, r10, r11, r12, r13, r14, rfl⟩
      have les : es.length ≤ 10 := by omega
      have c02 : Ch f H H2 := c0.trans c2
      have h32 := h3.ch c02 fe
      clear c2 c1 fe1 cE feE le
      -- the table, the wears
      refine ⟨.ref E1, rfl, fun x dx nx ndx ne => mk_tab2 (.inl (SqL.of eE)) tr (by omega) nx ndx ne fun H4 s4 tab => ?_⟩
      have eE := s4 _ _ eE
      have tr := tr.same s4
      have h34 := h32.same s4
      have fe4 := fe2.same s4
      have c04 : Ch f H H4 := c02.trans (Ch.of_same s4)
      clear s4 h32 fe2 c02 nx ndx
      obtain ⟨a', b', c', A, B, C, u1, u2, u3, eq1, eq2, eq3, -, -, -, hla, hwa, hpa, L1, L2, L3, f1, f2, f3⟩ := h34
      obtain ⟨rfl, rfl, rfl⟩ : a = a' ∧ b = b' ∧ c = c' := by simpa using eq1
      obtain ⟨rfl, rfl, rfl⟩ : v1 = u1 ∧ v2 = u2 ∧ v3 = u3 := by simpa using eq3
      rw [eq2] at hwa
      clear eq1 eq2 eq3
      refine ⟨.ref la, rfl, la, rfl, ⟨_, SqL.of hla⟩, fun D nD => ?_⟩
      refine lc_list (K := K) (a := la) (xs := [.ref a, .ref b, .ref c]) (fun i Hz => Same H4 Hz ∧ Hz D = some (.lst ((([A, B, C].take i).map (wear es)).map V.int))) ⟨same_new nD, upd_same⟩ (fun i Hz _ z => SqL.of (z.1 _ _ hla)) ?_ ?_
      · rintro i y Hz hy ⟨sz, eD⟩
        obtain ⟨d, D_, rfl, eD_, ls⟩ := l3_at (L1.same sz) (L2.same sz) (L3.same sz) hy
        obtain ⟨_, ⟨xs, hxs, pxs⟩, llen, _⟩ := ls
        refine ⟨rfl, iteT (B := True) ⟨.ref E1, rfl, .ref d, rfl, E1, d, acc, xs, es, D_, rfl, sz _ _ eE, tr.same sz, gd, by omega, hxs, pxs, by omega, fun H5 s5 => ?_⟩⟩
        refine ⟨_, s5 _ _ eD, small3000 (by rw [List.length_map, List.length_map, List.length_take]; show min i 3 ≤ 3000; omega), same_again nD (sz.trans s5), ?_⟩
        rw [upd_same, List.take_add_one, eD_, Option.toList_some, List.map_append, List.map_append]
        rfl
      rintro H5 ⟨s5, eD⟩
      have eD : H5 D = some (.lst (([A, B, C].map (wear es)).map V.int)) := eD
      refine ⟨l2s, fun t nt => ⟨t, _, rfl, SqT.of upd_same, rfl, .ref x, [.ref D], rfl, .ref D, [], rfl, rfl, ?_⟩⟩
      have st := same_new (o := .tup [V.ref x, .ref D]) nt
      have eD := st _ _ eD
      have s46 := s5.trans st
      generalize upd H5 t (.tup [V.ref x, .ref D]) = H6 at st eD s46 ⊢
      clear s5 st nt nD
      have hla6 := s46 _ _ hla
      have tab6 := tab.same s46
      -- wears as the table says
      refine ⟨.ref la, rfl, la, rfl, ⟨_, SqL.of hla6⟩, fun D2 nD2 => ?_⟩
      refine lc_list (K := K) (a := la) (xs := [.ref a, .ref b, .ref c]) (fun i Hz => Same H6 Hz ∧ Hz D2 = some (.lst ((([A, B, C].take i).map (wear es)).map V.int))) ⟨same_new nD2, upd_same⟩ (fun i Hz _ z => SqL.of (z.1 _ _ hla6)) ?_ ?_
      · rintro i y Hz hy ⟨sz, eD2⟩
        have s4z := s46.trans sz
        obtain ⟨d, D_, rfl, eD_, ls⟩ := l3_at (L1.same s4z) (L2.same s4z) (L3.same s4z) hy
        obtain ⟨_, ⟨xs, hxs, pxs⟩, llen, _⟩ := ls
        have tabz := tab6.same sz
        obtain ⟨d2, t2, ys2, hx, _⟩ := id tabz
        refine ⟨rfl, iteT (B := True) ⟨.ref x, rfl, x, d2, _, rfl, hx, rfl, .ref d, rfl, tw_of tabz (by omega) hxs pxs (by omega) fun H7 s7 => ?_⟩⟩
        refine ⟨_, s7 _ _ eD2, small3000 (by rw [List.length_map, List.length_map, List.length_take]; show min i 3 ≤ 3000; omega), same_again nD2 (sz.trans s7), ?_⟩
        rw [upd_same, List.take_add_one, eD_, Option.toList_some, List.map_append, List.map_append]
        rfl
      rintro H7 ⟨s7, eD2⟩
      have eD2 : H7 D2 = some (.lst (([A, B, C].map (wear es)).map V.int)) := eD2
      have eD := s7 _ _ eD
      refine ⟨.ref D, rfl, .list (dInts ([A, B, C].map (wear es))), .list (dInts ([A, B, C].map (wear es))), .lst (SqL.of eD2) (dp_ints _), .lst (SqL.of eD) (dp_ints _), shaped_lst _, shaped_lst _, _, rfl, ?_⟩
      rw [eqv_same (shaped_lst _)]
      refine iteF ?_
      have s47 := s46.trans s7
      clear eD2 s7 s46 tab6 hla6 nD2 tab tr eE
      -- the pairs of places
      refine ⟨l2s, fun p1 np1 => ?_⟩
      have q1 := same_new (o := .tup [V.int 0, V.int 1]) np1
      have hp1 := upd_same (H := H7) (a := p1) (o := .tup [V.int 0, V.int 1])
      generalize upd H7 p1 (.tup [V.int 0, V.int 1]) = H8 at q1 hp1 ⊢
      refine ⟨l2s, fun p2 np2 => ?_⟩
      have q2 := same_new (o := .tup [V.int 1, V.int 2]) np2
      have hp2 := upd_same (H := H8) (a := p2) (o := .tup [V.int 1, V.int 2])
      generalize upd H8 p2 (.tup [V.int 1, V.int 2]) = H9 at q2 hp2 ⊢
      refine ⟨l2s, fun p3 np3 => ?_⟩
      have q3 := same_new (o := .tup [V.int 0, V.int 2]) np3
      have hp3 := upd_same (H := H9) (a := p3) (o := .tup [V.int 0, V.int 2])
      generalize upd H9 p3 (.tup [V.int 0, V.int 2]) = H10 at q3 hp3 ⊢
      refine ⟨l3s, fun T nT => ?_⟩
      have q4 := same_new (o := .tup [V.ref p1, .ref p2, .ref p3]) nT
      have hT := upd_same (H := H10) (a := T) (o := .tup [V.ref p1, .ref p2, .ref p3])
      generalize upd H10 T (.tup [V.ref p1, .ref p2, .ref p3]) = H11 at q4 hT ⊢
      have s711 := q1.trans (q2.trans (q3.trans q4))
      have s411 := s47.trans s711
      have eD := s711 _ _ eD
      have hwa := s411 _ _ hwa
      have hpa := s411 _ _ hpa
      have fe11 := fe4.same s411
      have c011 : Ch f H H11 := c04.trans (Ch.of_same s411)
      have all : ∀ y ∈ [V.ref p1, .ref p2, .ref p3], Pl H11 [A, B, C] [.bl (nm A B), .bl (nm A C), .bl (nm B C)] [v1, v2, v3] y := by
        intro y hy
        rcases List.mem_cons.mp hy with rfl | hy
        · exact ⟨p1, 0, 1, 0, A, B, v1, rfl, (q2.trans (q3.trans q4)) _ _ hp1, rfl, rfl, rfl, rfl, rfl, f1.same s411, L1.len, L2.len⟩
        rcases List.mem_cons.mp hy with rfl | hy
        · exact ⟨p2, 1, 2, 2, B, C, v3, rfl, (q3.trans q4) _ _ hp2, rfl, rfl, rfl, rfl, rfl, f3.same s411, L2.len, L3.len⟩
        rw [List.mem_singleton.mp hy]
        exact ⟨p3, 0, 2, 1, A, C, v2, rfl, q4 _ _ hp3, rfl, rfl, rfl, rfl, rfl, f2.same s411, L1.len, L3.len⟩
      generalize [V.ref p1, .ref p2, .ref p3] = zs at all hT
      generalize [V.bl (nm A B), .bl (nm A C), .bl (nm B C)] = wsV at all hwa
      generalize [v1, v2, v3] = psV at all hpa
      generalize [A, B, C] = LL at all eD
      clear q1 q2 q3 q4 hp1 hp2 hp3 np1 np2 np3 nT s711 s411 s47 fe4 c04 L1 L2 L3 f1 f2 f3 hla
      refine ⟨T, rfl, ⟨_, SqT.of hT⟩, for_it (walk_tup (xs := zs)) (fun i σ Hz => Same H11 Hz ∧ ∃ r4 r5 r6 r7 r8 r9 r11 r12 r13 r14 : Option V, σ = [some (.ref f), some (.ref la), some (.ref wa), some (.ref pa), r4, r5, r6, r7, r8, r9, some (.ref D), r11, r12, r13, r14]) ⟨Same.refl _, _, _, _, _, _, _, _, _, _, _, rfl⟩ (fun i σ Hz _ z => SqT.of (z.1 _ _ hT)) ?_ ?_⟩
      · rintro m y σ Hz Hy hm ⟨sz, r4, r5, r6, r7, r8, r9, r11, r12, r13, r14, rfl⟩ ⟨rfl, hy⟩
        obtain ⟨p, i, j, k, X, Y, v, rfl, hp, hk, eX, eY, eW, eP, fr, lX, lY⟩ := (all y (List.mem_of_getElem? hy)).same sz
        have eDz := sz _ _ eD
        have hwaz := sz _ _ hwa
        have hpaz := sz _ _ hpa
        have wX := wear_at (es := es) eX
        have wY := wear_at (es := es) eY
        refine ⟨p, _, rfl, SqT.of hp, rfl, .int (i : Int), [.int (j : Int)], rfl, .int (j : Int), [], rfl, rfl, ?_⟩
        refine ⟨.ref wa, rfl, .int (i : Int), rfl, .int (j : Int), rfl, _, _, rfl, rfl, _, 1, rfl, rfl, wa, _, _, _, rfl, rfl, SqL.of hwaz, at_of (j := k) (by omega) eW, _, rfl, ?_⟩
        have hlt : nm X Y = true → ¬ wear es Y < wear es X := fun e => by
          have := K66.nm_wear gd (nmB_iff.mp e)
          omega
        refine joinP (R := ?R1) (fun e key => ?a1) (fun e key => ?a2) ?a3
        case a1 =>
          refine ⟨.ref D, rfl, .int (i : Int), rfl, D, _, _, _, rfl, rfl, SqL.of eDz, at_of (j := i) rfl wX, .ref D, rfl, .int (j : Int), rfl, D, _, _, _, rfl, rfl, SqL.of eDz, at_of (j := j) rfl wY, _, _, rfl, rfl, _, rfl, ?_⟩
          rw [decide_eq_false (hlt e)]
          refine iteF ?_
          exact key
        case a2 =>
          refine iteF ?_
          exact key
        case a3 =>
        refine ⟨.ref pa, rfl, .int (i : Int), rfl, .int (j : Int), rfl, _, _, rfl, rfl, _, 1, rfl, rfl, pa, _, _, _, rfl, rfl, SqL.of hpaz, at_of (j := k) (by omega) eP, ?_⟩
        refine ⟨v, rfl, rfl, _, rfl, ?_⟩
        rcases fr with ⟨pp, qq, V_, fd, hv, hfd, ft⟩ | ⟨hv, _⟩
        · subst hv
          obtain ⟨b1, b2⟩ := ft_small ft lX lY
          refine iteT ⟨.ref fd, rfl, fd, _, 1, .int ((qq : Nat) : Int), rfl, rfl, SqT.of hfd, at_of (j := 1) rfl rfl, .ref D, rfl, .int (i : Int), rfl, D, _, _, _, rfl, rfl, SqL.of eDz, at_of (j := i) rfl wX, _, _, rfl, rfl, .inl ⟨by omega, by omega⟩, .ref fd, rfl, fd, _, 0, .int ((pp : Nat) : Int), rfl, rfl, SqT.of hfd, at_of (j := 0) rfl rfl, .ref D, rfl, .int (j : Int), rfl, D, _, _, _, rfl, rfl, SqL.of eDz, at_of (j := j) rfl wY, _, _, rfl, rfl, .inl ⟨by omega, by omega⟩, _, _, rfl, rfl, _, rfl, ?_⟩
          have := K66.ft_wear gd ft
          rw [decide_eq_false (show ¬ ((pp : Nat) : Int) * wear es Y < ((qq : Nat) : Int) * wear es X by omega)]
          exact iteF ⟨sz, _, _, _, _, _, _, _, _, _, _, rfl⟩
        · subst hv
          exact iteF (iteF ⟨sz, _, _, _, _, _, _, _, _, _, _, rfl⟩)
      · rintro σ Hz ⟨sz, r4, r5, r6, r7, r8, r9, r11, r12, r13, r14, rfl⟩
        exact ⟨c011.trans (Ch.of_same sz), fe11.same sz, _, _, _, _, _, _, _, _, _, _, _, rfl⟩
    · rintro σ Hz ⟨c0, fe0, r4, r5, r6, r7, r8, r9, r10, r11, r12, r13, r14, rfl⟩
      exact hq Hz c0 fe0
end
end N6K

/-! matchings behind one another -/
namespace K96
open PySem K52b K55 K55b K55c K57 K65 K66
def at2 (rs : List (Int × Int)) (i : Nat) : Int × Int := (rs[i]?).getD (0, 0)
/-- places of its own for each, as a list -/
def Mt2 (rs ss : List (Int × Int)) (ps : List Int) : Prop := ps.length = rs.length ∧ ps.Nodup ∧ ∀ i, i < rs.length → ∃ p : Nat, ps[i]? = some (p : Int) ∧ p < ss.length ∧ cont (at2 ss p) (at2 rs i)
def cmp2 (ps qs : List Int) : List Int := ps.map fun p => (qs[p.toNat]?).getD 0
theorem cmp2_at {rs ss ts : List (Int × Int)} {ps qs : List Int} (h : Mt2 rs ss ps) (g : Mt2 ss ts qs) {i : Nat} {x : Int} (hx : ps[i]? = some x) : ∃ j k : Nat, x = (j : Int) ∧ qs[j]? = some (k : Int) ∧ (cmp2 ps qs)[i]? = some (k : Int) ∧ k < ts.length ∧ cont (at2 ts k) (at2 rs i) := by
  have hi := (List.getElem?_eq_some_iff.mp hx).1
  rw [h.1] at hi
  obtain ⟨j, e1, hj, c1⟩ := h.2.2 i hi
  obtain ⟨k, e2, hk, c2⟩ := g.2.2 j hj
  rw [hx] at e1
  refine ⟨j, k, Option.some.inj e1, e2, ?_, hk, cont_trans c2 c1⟩
  unfold cmp2
  rw [List.getElem?_map, hx, Option.some.inj e1]
  show some ((qs[((j : Int)).toNat]?).getD 0) = _
  rw [Int.toNat_natCast, e2]
  rfl
theorem cmp2_mt {rs ss ts : List (Int × Int)} {ps qs : List Int} (h : Mt2 rs ss ps) (g : Mt2 ss ts qs) : Mt2 rs ts (cmp2 ps qs) := by
  have l : (cmp2 ps qs).length = ps.length := List.length_map _
  refine ⟨by rw [l]; exact h.1, ?_, fun i hi => ?_⟩
  · have nd := h.2.1
    rw [List.Nodup, List.pairwise_iff_getElem] at nd ⊢
    intro i j hi hj lt e
    rw [l] at hi hj
    obtain ⟨a, b, e1, e2, e3, _⟩ := cmp2_at h g (List.getElem?_eq_getElem hi)
    obtain ⟨c, d, f1, f2, f3, _⟩ := cmp2_at h g (List.getElem?_eq_getElem hj)
    have e3' := (List.getElem?_eq_some_iff.mp e3).2
    have f3' := (List.getElem?_eq_some_iff.mp f3).2
    rw [e3', f3'] at e
    have bd : b = d := by omega
    subst bd
    have ndq := g.2.1
    have ha := List.getElem?_eq_some_iff.mp e2
    have hc := List.getElem?_eq_some_iff.mp f2
    rw [List.Nodup, List.pairwise_iff_getElem] at ndq
    have ac : a = c := by
      rcases Nat.lt_trichotomy a c with z | z | z
      · exact absurd (by rw [ha.2, hc.2]) (ndq a c ha.1 hc.1 z)
      · exact z
      · exact absurd (by rw [ha.2, hc.2]) (ndq c a hc.1 ha.1 z)
    exact nd i j hi hj lt (by rw [e1, f1, ac])
  · have hi2 : i < ps.length := by rw [h.1]; exact hi
    obtain ⟨j, k, _, _, e3, e4, e5⟩ := cmp2_at h g (List.getElem?_eq_getElem hi2)
    exact ⟨k, e3, e4, e5⟩
end K96

set_option pp.maxSteps 900
/-! k96's law -/
namespace N6L
open PySem PySem.Spec PyProof.Rows L2 KA KD PH PM RM RN K52b K55 K55b K57 P5I P5P MM XE F5F F6W N6Z N6K
open XT hiding pairs_get
open P5N (Mt nm)
open K66 (NoF)
abbrev sEc : Stmt := topS 5
abbrev sEI : Stmt := inClass sEc 0
abbrev sEcN : Stmt := topS 6
abbrev sEIN : Stmt := inClass sEcN 0
abbrev sLaw : Stmt := topS 37
theorem scLaw : FnScope ["script", "k", "feed", "first", "second", "third", "lists", "words", "parts", "one", "two", "top", "bottom", "more", "under", "turned", "turn", "place", "word", "part", "low", "high"] ["script"] (defScope N6L.sLaw) := ⟨rfl, rfl, rfl, by decide +kernel, rfl, by decide +kernel, by decide +kernel⟩
structure Txt (P : Program) (K : PySem.W.Frag) (mg : Str → Option Value) (fNU fCO fPIN fPT fBP fNM fIM fMA fCR fFE fTA fRL fLS fF1 fRG fWI fNX fFA fWE fTR CT_ fUI fUA fUW CE fEI CEN fEIN : Addr) (dNU dCO dPIN dPT dBP dNM dIM dMA dCR dFE dTA dRL dLS dF1 dRG dWI dNX dFA dWE dTR dUI dUA dUW dEI dEIN : FuncData) : Prop where
  FNU : Fun K "is_number" "is_number" P5I.sNu fNU dNU
  gNU : mg "is_number" = some (.ref fNU)
  kNU : PySem.W.keepIn K (.ref fNU) = true
  bNU : Binds K dNU ["value"] []
  FCO : Fun K "contains" "contains" P5I.sCont fCO dCO
  gCO : mg "contains" = some (.ref fCO)
  kCO : PySem.W.keepIn K (.ref fCO) = true
  bCO : Binds K dCO ["outer", "inner"] []
  FPIN : Fun K "place_in" "place_in" BO.sPI fPIN dPIN
  gPIN : mg "place_in" = some (.ref fPIN)
  kPIN : PySem.W.keepIn K (.ref fPIN) = true
  bPIN : Binds K dPIN ["row", "value"] []
  FPT : Fun K "put_in" "put_in" BO.sPT fPT dPT
  gPT : mg "put_in" = some (.ref fPT)
  kPT : PySem.W.keepIn K (.ref fPT) = true
  bPT : Binds K dPT ["row", "value"] []
  FBP : Fun K "_best_places" "_best_places" P5P.sBP fBP dBP
  gBP : mg "_best_places" = some (.ref fBP)
  kBP : PySem.W.keepIn K (.ref fBP) = true
  bBP : Binds K dBP ["first", "second"] []
  FNM : Fun K "never_more" "never_more" F6W.sNM fNM dNM
  gNM : mg "never_more" = some (.ref fNM)
  kNM : PySem.W.keepIn K (.ref fNM) = true
  bNM : Binds K dNM ["first", "second"] []
  FIM : Fun K "is_matching" "is_matching" F6W.sIM fIM dIM
  gIM : mg "is_matching" = some (.ref fIM)
  kIM : PySem.W.keepIn K (.ref fIM) = true
  bIM : Binds K dIM ["first", "second", "value"] []
  FMA : Fun K "matching" "matching" P5N.sMA fMA dMA
  gMA : mg "matching" = some (.ref fMA)
  kMA : PySem.W.keepIn K (.ref fMA) = true
  bMA : Binds K dMA ["first", "second"] []
  FCR : Fun K "_crowd" "_crowd" CR.sCR fCR dCR
  gCR : mg "_crowd" = some (.ref fCR)
  kCR : PySem.W.keepIn K (.ref fCR) = true
  bCR : Binds K dCR ["first", "second", "places"] []
  FFE : Fun K "_law_feed" "_law_feed" sFeed fFE dFE
  gFE : mg "_law_feed" = some (.ref fFE)
  kFE : PySem.W.keepIn K (.ref fFE) = true
  bFE : Binds K dFE ["script", "k"] []
  FTA : Fun K "_law_take" "_law_take" sTake fTA dTA
  gTA : mg "_law_take" = some (.ref fTA)
  kTA : PySem.W.keepIn K (.ref fTA) = true
  bTA : Binds K dTA ["feed", "many"] []
  FRL : Fun K "_refuse_large" "_refuse_large" F5F.sRL fRL dRL
  gRL : mg "_refuse_large" = some (.ref fRL)
  kRL : PySem.W.keepIn K (.ref fRL) = true
  bRL : Binds K dRL ["ranges"] []
  FLS : Fun K "_least" "_least" F5F.sLS fLS dLS
  gLS : mg "_least" = some (.ref fLS)
  kLS : PySem.W.keepIn K (.ref fLS) = true
  bLS : Binds K dLS ["first", "second"] []
  FF1 : Fun K "factor" "factor" F5F.sF1 fF1 dF1
  gF1 : mg "factor" = some (.ref fF1)
  kF1 : PySem.W.keepIn K (.ref fF1) = true
  bF1 : Binds K dF1 ["first", "second"] []
  FRG : Fun K "_law_range" "_law_range" N6Z.sRG fRG dRG
  gRG : mg "_law_range" = some (.ref fRG)
  kRG : PySem.W.keepIn K (.ref fRG) = true
  bRG : Binds K dRG ["feed"] []
  FWI : Fun K "_law_wider" "_law_wider" N6Z.sWI fWI dWI
  gWI : mg "_law_wider" = some (.ref fWI)
  kWI : PySem.W.keepIn K (.ref fWI) = true
  bWI : Binds K dWI ["feed", "ranges"] []
  FNX : Fun K "_law_next" "_law_next" N6Z.sNX fNX dNX
  gNX : mg "_law_next" = some (.ref fNX)
  kNX : PySem.W.keepIn K (.ref fNX) = true
  bNX : Binds K dNX ["feed", "ranges"] []
  FFA : Fun K "_law_factor" "_law_factor" N6Z.sFA fFA dFA
  gFA : mg "_law_factor" = some (.ref fFA)
  kFA : PySem.W.keepIn K (.ref fFA) = true
  bFA : Binds K dFA ["first", "second"] []
  FWE : Fun K "_law_wear" "_law_wear" N6Z.sWE fWE dWE
  gWE : mg "_law_wear" = some (.ref fWE)
  kWE : PySem.W.keepIn K (.ref fWE) = true
  bWE : Binds K dWE ["entries", "ranges"] []
  FTR : Fun K "_law_tables_right" "_law_tables_right" N6Z.sTR fTR dTR
  gTR : mg "_law_tables_right" = some (.ref fTR)
  kTR : PySem.W.keepIn K (.ref fTR) = true
  bTR : Binds K dTR ["feed", "lists", "words", "parts"] []
  gCT_ : mg "Table" = some (.ref CT_)
  tbl : Tbl K CT_
  mkT : Mk K CT_ fUI
  FUI : Fun K "__init__" "Table.__init__" sTI fUI dUI
  bUI : Binds K dUI ["self", "entries"] []
  mUA : Meth K CT_ "amount" fUA
  FUA : Fun K "amount" "Table.amount" sTA fUA dUA
  bUA : Binds K dUA ["self", "low", "high"] []
  mUW : Meth K CT_ "wear" fUW
  FUW : Fun K "wear" "Table.wear" sTW fUW dUW
  bUW : Binds K dUW ["self", "ranges"] []
  gMOS : ∃ u, mg "MOST_RANGES" = some u ∧ RelV (.int 12) u
  gcdm : mg "gcd" = some (.builtin "math.gcd")
  len : mg "len" = none
  zip : mg "zip" = none
  max : mg "max" = none
  min : mg "min" = none
  abs : mg "abs" = none
  range : mg "range" = none
  sorted : mg "sorted" = none
  tuple : mg "tuple" = none
  list : mg "list" = none
  int : mg "int" = none
  enumerate : mg "enumerate" = none
  set : mg "set" = none
  sum : mg "sum" = none
  isinstance : mg "isinstance" = none
  bool : mg "bool" = none
  all : mg "all" = none
  gE : mg "More" = some (.ref CE)
  eC : ErrC K CE fEI "table"
  FEI : XS.FunS K P "__init__" "More.__init__" sEI CE fEI dEI
  bEI : Binds K dEI ["self", "table"] []
  sK : XS.SupK K P mg
  sC : XS.SupC K CE
  xf : XS.XfA K "table" CE
  exm : PySem.W.exmOne K (.ref CE) (.ref CE) = some true
  gEN : mg "NoFactor" = some (.ref CEN)
  eCN : ErrC K CEN fEIN "table"
  FEIN : XS.FunS K P "__init__" "NoFactor.__init__" sEIN CEN fEIN dEIN
  bEIN : Binds K dEIN ["self", "table"] []
  sCN : XS.SupC K CEN
  xfN : XS.XfA K "table" CEN
  exmN : PySem.W.exmOne K (.ref CEN) (.ref CEN) = some true
theorem join0 {R : Hp → Prop} {Pj : Hp → Prop} {A B : Prop} {c : Bool} (h1 : c = true → (∀ H, Pj H → R H) → A) (h2 : c = false → (∀ H, Pj H → R H) → B) (k : ∀ H, Pj H → R H) : if c = true then A else B := by
  cases c with
  | true => exact iteT (h1 rfl k)
  | false => exact iteF (h2 rfl k)
theorem fa_is {K : PySem.W.Frag} {H : Hp} {vs : List V} {rs ss : List (Int × Int)} {Q : VK} (two : Two K H vs rs ss) (k : ∀ H' v, Same H H' → FrV H' rs ss v → Q v H') : N6Z.FaAt K vs H Q :=
  ⟨rs, ss, two, fun p q V_ ft H' f s e => k H' (.ref f) s (.inl ⟨p, q, V_, f, rfl, e, ft⟩), fun no H' s => k H' .non s (.inr ⟨rfl, no⟩)⟩
/-- all that the law holds -/
structure Al (f : Addr) (H : Hp) (la wa pp D1 D2 D3 : Addr) (A B C : List (Int × Int)) (v1 v2 v3 : V) : Prop where
  nl : la ≠ f
  nw : wa ≠ f
  np : pp ≠ f
  hl : H la = some (.lst [.ref D1, .ref D2, .ref D3])
  hw : H wa = some (.lst [.bl (nm A B), .bl (nm A C), .bl (nm B C)])
  hp : H pp = some (.lst [v1, v2, v3])
  L1 : Lst3 f H D1 A
  L2 : Lst3 f H D2 B
  L3 : Lst3 f H D3 C
  f1 : FrV H A B v1
  f2 : FrV H A C v2
  f3 : FrV H B C v3
section
variable {f la wa pp D1 D2 D3 : Addr} {H H' : Hp} {A B C : List (Int × Int)} {v1 v2 v3 : V}
theorem Al.same (h : Al f H la wa pp D1 D2 D3 A B C v1 v2 v3) (s : Same H H') : Al f H' la wa pp D1 D2 D3 A B C v1 v2 v3 :=
  ⟨h.nl, h.nw, h.np, s _ _ h.hl, s _ _ h.hw, s _ _ h.hp, h.L1.same s, h.L2.same s, h.L3.same s, h.f1.same s, h.f2.same s, h.f3.same s⟩
theorem Al.ch (h : Al f H la wa pp D1 D2 D3 A B C v1 v2 v3) (c : Ch f H H') (fe : FeedAt H f) : Al f H' la wa pp D1 D2 D3 A B C v1 v2 v3 :=
  ⟨h.nl, h.nw, h.np, c _ _ h.nl h.hl, c _ _ h.nw h.hw, c _ _ h.np h.hp, h.L1.ch c fe, h.L2.ch c fe, h.L3.ch c fe, h.f1.ch c fe, h.f2.ch c fe, h.f3.ch c fe⟩
theorem Al.three (h : Al f H la wa pp D1 D2 D3 A B C v1 v2 v3) : Three f H la wa pp [.ref D1, .ref D2, .ref D3] [.bl (nm A B), .bl (nm A C), .bl (nm B C)] [v1, v2, v3] :=
  ⟨D1, D2, D3, A, B, C, v1, v2, v3, rfl, rfl, rfl, h.nl, h.nw, h.np, h.hl, h.hw, h.hp, h.L1, h.L2, h.L3, h.f1, h.f2, h.f3⟩
/-- a word and the factor at its place -/
theorem Al.at_ (h : Al f H la wa pp D1 D2 D3 A B C v1 v2 v3) {i : Nat} {x y : V} (hx : [V.bl (nm A B), .bl (nm A C), .bl (nm B C)][i]? = some x) (hy : [v1, v2, v3][i]? = some y) : ∃ X Y, x = .bl (nm X Y) ∧ FrV H X Y y := by
  match i, hx, hy with
  | 0, hx, hy => exact ⟨A, B, (Option.some.inj hx).symm, by rw [← Option.some.inj hy]; exact h.f1⟩
  | 1, hx, hy => exact ⟨A, C, (Option.some.inj hx).symm, by rw [← Option.some.inj hy]; exact h.f2⟩
  | 2, hx, hy => exact ⟨B, C, (Option.some.inj hx).symm, by rw [← Option.some.inj hy]; exact h.f3⟩
  | n + 3, hx, _ => simp at hx
end
theorem nm_tr {A B C : List (Int × Int)} (h : nm A B = true) (g : nm B C = true) : nm A C = true := nmB_iff.mpr (K96.nm_trans (nmB_iff.mp h) (nmB_iff.mp g))
theorem nm_sf (A : List (Int × Int)) : nm A A = true := nmB_iff.mpr (K96.nm_self A)
theorem nm_mir {A B A2 B2 : List (Int × Int)} (h : K96.Mir A A2) (g : K96.Mir B B2) : nm A2 B2 = nm A B := by
  show nmB A2 B2 = nmB A B
  rw [Bool.eq_iff_iff, nmB_iff, nmB_iff]
  exact h.nm g
theorem nm_yes {H : Hp} {X Y : List (Int × Int)} {v : V} (h : nm X Y = true) (fr : FrV H X Y v) : ∃ (p q : Nat) (a : Addr), v = .ref a ∧ H a = some (.tup [.int ((p : Nat) : Int), .int ((q : Nat) : Int)]) ∧ p ≤ q := by
  rcases fr with ⟨p, q, V_, a, e, h1, ft⟩ | ⟨_, no⟩
  · exact ⟨p, q, a, e, h1, (K66.ft_le ft).mpr (nmB_iff.mp h)⟩
  · exact absurd (nmB_iff.mp h) (K66.nof_nm no)
/-- a matching is one for the program's own check -/
theorem mat_ok {rs ss : List (Int × Int)} {ps : List Int} (h : Mt rs ss ps) : matB rs ss (.list (dInts ps)) = true := by
  obtain ⟨h1, h2, h3⟩ := h
  have pl : ∀ x ∈ ps, 0 ≤ x ∧ x < (ss.length : Int) := fun x hx => by
    obtain ⟨i, hi, rfl⟩ := List.getElem_of_mem hx
    obtain ⟨p, e, hp, _⟩ := h3 i (by omega)
    rw [List.getElem?_eq_getElem hi] at e
    have := Option.some.inj e
    omega
  show (decide ((dInts ps).length = rs.length) && ((dInts ps).all (plB ss.length) && matN rs ss (intsOf (dInts ps)))) = true
  rw [intsOf_ints, pl_ints pl, decide_eq_true (by unfold dInts; rw [List.length_map]; exact h1), Bool.true_and, Bool.true_and]
  unfold matN
  rw [decide_eq_true h2, Bool.true_and, List.all_eq_true]
  intro i hi
  obtain ⟨p, e, _, hc⟩ := h3 i (List.mem_range.mp hi)
  unfold okP cB
  rw [e]
  show (decide ((at0 ss ((p : Int)).toNat).1 ≤ _) && decide (_ ≤ (at0 ss ((p : Int)).toNat).2)) = true
  rw [Int.toNat_natCast, decide_eq_true hc.1, decide_eq_true hc.2]
  rfl
theorem ne_fr {K : PySem.W.Frag} {H : Hp} {f u : Addr} {p q : Int} {Q : VK} (h1 : H f = some (.tup [.int p, .int q])) (h2 : H u = some (.tup [.int p, .int q])) (k : Q (.bl false) H) : rNeD K (.ref f) (.ref u) H Q :=
  ⟨.tuple (dInts [p, q]), .tuple (dInts [p, q]), .tup (SqT.of (xs := ([p, q] : List Int).map V.int) h1) (dp_ints _), .tup (SqT.of (xs := ([p, q] : List Int).map V.int) h2) (dp_ints _), shaped_tup _, shaped_tup _, by rw [eqv_same (shaped_tup _)]; exact k⟩
theorem eqv_nil (rs : List (Int × Int)) : PyData.eqv (.list (dPairs rs)) (.list []) = rs.isEmpty := by cases rs <;> rfl
/-- the factors of two pairs that are mirrored are the same data -/
theorem frv_same {K : PySem.W.Frag} {H : Hp} {A B A2 B2 : List (Int × Int)} {v w : V} (h : K96.Mir A A2) (g : K96.Mir B B2) (fr : FrV H A B v) (fr2 : FrV H A2 B2 w) : ∃ d, Dp K H v d ∧ Dp K H w d ∧ ∀ b, SeqAt.shaped (.list [.bool b, d]) = true := by
  rcases fr with ⟨p, q, V_, a, rfl, h1, ft⟩ | ⟨rfl, no⟩
  · rcases fr2 with ⟨p2, q2, W_, a2, rfl, h2, ft2⟩ | ⟨_, no⟩
    · obtain ⟨e1, e2⟩ := (h.ft g ft).one ft2
      subst e1 e2
      exact ⟨.tuple (dInts [((p : Nat) : Int), ((q : Nat) : Int)]), .tup (SqT.of (xs := ([((p : Nat) : Int), ((q : Nat) : Int)] : List Int).map V.int) h1) (dp_ints _), .tup (SqT.of (xs := ([((p : Nat) : Int), ((q : Nat) : Int)] : List Int).map V.int) h2) (dp_ints _), fun _ => rfl⟩
    · exact absurd no (K66.ft_no (h.ft g ft))
  · rcases fr2 with ⟨p2, q2, W_, a2, rfl, h2, ft2⟩ | ⟨rfl, _⟩
    · exact absurd (h.no g no) (K66.ft_no ft2)
    · exact ⟨.none, .non, .non, fun _ => rfl⟩
/-- a list turned and mirrored, at d -/
def MirAt (H : Hp) (D : Addr) (X : List (Int × Int)) (d : Addr) : Prop := d ≠ D ∧ ∃ ys R, H d = some (.lst ys) ∧ PairsAt H ys R ∧ K96.Mir X R ∧ R.length = X.length ∧ ∀ r ∈ R, r.1 < r.2
theorem MirAt.same {H H' : Hp} {D d : Addr} {X : List (Int × Int)} (h : MirAt H D X d) (s : Same H H') : MirAt H' D X d := by
  obtain ⟨n, ys, R, h1, h2, h3⟩ := h
  exact ⟨n, ys, R, s _ _ h1, h2.same s, h3⟩
theorem MirAt.put {H : Hp} {D d : Addr} {X : List (Int × Int)} {l l2 : List V} (e : H D = some (.lst l)) (h : MirAt H D X d) : MirAt (upd H D (.lst l2)) D X d := by
  obtain ⟨n, ys, R, h1, h2, h3⟩ := h
  exact ⟨n, ys, R, by rw [upd_ne n]; exact h1, pairs_put e h2, h3⟩
theorem joinS {α : Type} {R : Hp → α → Prop} {Pj : Hp → Prop} {A B : Prop} {c : Bool} (h1 : c = true → (∀ H o, Pj H → R H o) → A) (h2 : c = false → (∀ H o, Pj H → R H o) → B) (k : ∀ H o, Pj H → R H o) : if c = true then A else B := by
  cases c with
  | true => exact iteT (h1 rfl k)
  | false => exact iteF (h2 rfl k)
theorem joinT {R : Hp → Option V → Option V → Prop} {Pj : Hp → Prop} {A B : Prop} {c : Bool} (h1 : c = true → (∀ H o1 o2, Pj H → R H o1 o2) → A) (h2 : c = false → (∀ H o1 o2, Pj H → R H o1 o2) → B) (k : ∀ H o1 o2, Pj H → R H o1 o2) : if c = true then A else B := by
  cases c with
  | true => exact iteT (h1 rfl k)
  | false => exact iteF (h2 rfl k)
theorem joinQ {R : Hp → Option V → Option V → Option V → Option V → Prop} {Pj : Hp → Prop} {A B : Prop} {c : Bool} (h1 : c = true → (∀ H o1 o2 o3 o4, Pj H → R H o1 o2 o3 o4) → A) (h2 : c = false → (∀ H o1 o2 o3 o4, Pj H → R H o1 o2 o3 o4) → B) (k : ∀ H o1 o2 o3 o4, Pj H → R H o1 o2 o3 o4) : if c = true then A else B := by
  cases c with
  | true => exact iteT (h1 rfl k)
  | false => exact iteF (h2 rfl k)
theorem joinV2 {R : Hp → V → Prop} {Pj : Hp → V → Prop} {A B : Prop} {c : Bool} (h1 : c = true → (∀ H v, Pj H v → R H v) → A) (h2 : c = false → (∀ H v, Pj H v → R H v) → B) (k : ∀ H v, Pj H v → R H v) : if c = true then A else B := by
  cases c with
  | true => exact iteT (h1 rfl k)
  | false => exact iteF (h2 rfl k)
section
variable {P : Program} {w : World} {K : PySem.W.Frag} {mg : Str → Option Value} {base : Heap} {fNU fCO fPIN fPT fBP fNM fIM fMA fCR fFE fTA fRL fLS fF1 fRG fWI fNX fFA fWE fTR CT_ fUI fUA fUW CE fEI CEN fEIN : Addr} {dNU dCO dPIN dPT dBP dNM dIM dMA dCR dFE dTA dRL dLS dF1 dRG dWI dNX dFA dWE dTR dUI dUA dUW dEI dEIN : FuncData}
def spLaw (K : PySem.W.Frag) : Sp := fun vs H Q _ => ∃ (a : Addr) (ns : List Int), vs = [.ref a] ∧ SqL K H a (ns.map V.int) ∧ ns.length ≤ 63 ∧ ∀ H', Q (.bl true) H'
theorem len_law {K : PySem.W.Frag} : ∀ vs H Q E, (spLaw K) vs H Q E → vs.length = (["script"] : List Str).length := fun vs H Q E h => by
  obtain ⟨a, ns, rfl, _⟩ := h
  rfl
theorem ok_law {f0 : Addr} {fd : FuncData} (F : Fun K "law" "law" N6L.sLaw f0 fd) (T : Txt P K mg fNU fCO fPIN fPT fBP fNM fIM fMA fCR fFE fTA fRL fLS fF1 fRG fWI fNX fFA fWE fTR CT_ fUI fUA fUW CE fEI CEN fEIN dNU dCO dPIN dPT dBP dNM dIM dMA dCR dFE dTA dRL dLS dF1 dRG dWI dNX dFA dWE dTR dUI dUA dUW dEI dEIN) : KW.Kept P w K mg base 12 f0 fd ["script"] (spLaw K) := by
  have GNU : FnOk P w K mg base CX0 1 fNU dNU ["value"] P5I.spNu := P5I.ok_nu T.FNU T.isinstance T.int T.bool
  have GCO : FnOk P w K mg base CX0 1 fCO dCO ["outer", "inner"] (P5I.spCont K) := P5I.ok_Cont T.FCO
  have GUI : FnOk P w K mg base CX0 1 fUI dUI ["self", "entries"] (spTI K CT_) := ok_TI T.FUI T.tbl T.tuple
  have GUA : FnOk P w K mg base CX0 2 fUA dUA ["self", "low", "high"] (spTA CT_) := ok_TA T.FUA T.tbl T.max
  have GUW : FnOk P w K mg base CX0 3 fUW dUW ["self", "ranges"] (fun vs H Q E => spTWl K CT_ vs H Q E ∨ spTWt K CT_ vs H Q E) := both (ok_TWl T.FUW T.tbl T.mUA GUA T.bUA T.sum) (ok_TWt T.FUW T.tbl T.mUA GUA T.bUA T.sum)
  have GPIN : FnOk P w K mg base CX0 1 fPIN dPIN ["row", "value"] BO.spPI := BO.ok_PI T.FPIN T.len
  have GPT : FnOk P w K mg base CX0 2 fPT dPT ["row", "value"] BO.spPT := BO.ok_PT T.FPT GPIN T.gPIN T.kPIN T.bPIN
  have GBP : FnOk P w K mg base CX0 3 fBP dBP ["first", "second"] (P5P.spBP K) := P5P.ok_BP T.FBP (GPIN.mono (by decide)) T.gPIN T.kPIN T.bPIN GPT T.gPT T.kPT T.bPT T.len T.sorted T.enumerate
  have GNM : FnOk P w K mg base CX0 4 fNM dNM ["first", "second"] (F6W.spNM K) := F6W.ok_NM T.FNM GBP T.gBP T.kBP T.bBP
  have GCR : FnOk P w K mg base CX0 2 fCR dCR ["first", "second", "places"] (CR.spCR K) := CR.ok_CR T.FCR GCO T.gCO T.kCO T.bCO T.enumerate T.sorted T.set
  have GIM : FnOk P w K mg base CX0 2 fIM dIM ["first", "second", "value"] (F6W.spIM K) := F6W.ok_IM T.FIM GNU T.gNU T.kNU T.bNU GCO T.gCO T.kCO T.bCO T.isinstance T.list T.len T.all T.set T.zip
  have GFE : FnOk P w K mg base CX0 1 fFE dFE ["script", "k"] (spFeed K) := ok_feed T.FFE T.len T.max T.abs T.int
  have GTA : FnOk P w K mg base CX0 1 fTA dTA ["feed", "many"] spTake := ok_take T.FTA T.int
  have GRL : FnOk P w K mg base CX0 1 fRL dRL ["ranges"] (spRL K) := ok_RL T.FRL T.len T.gMOS
  have GRG : FnOk P w K mg base CX0 2 fRG dRG ["feed"] N6Z.spRG := N6Z.ok_RG T.FRG GTA T.gTA T.kTA T.bTA
  have GWI : FnOk P w K mg base CX0 3 fWI dWI ["feed", "ranges"] N6Z.spWI := N6Z.ok_WI T.FWI GTA T.gTA T.kTA T.bTA GRG T.gRG T.kRG T.bRG T.range T.len
  have GNX : FnOk P w K mg base CX0 4 fNX dNX ["feed", "ranges"] N6Z.spNX := N6Z.ok_NX T.FNX GTA T.gTA T.kTA T.bTA GRG T.gRG T.kRG T.bRG GWI T.gWI T.kWI T.bWI T.range
  have GWE : FnOk P w K mg base CX0 2 fWE dWE ["entries", "ranges"] N6Z.spWE := N6Z.ok_WE T.FWE T.max
  have GEI : FnOk P w K mg base CX0 1 fEI dEI ["self", "table"] (XS.spInit CE "table") := XS.fn_init T.FEI T.sK T.sC rfl (NdefX.nscope_by (by decide +kernel)) rfl rfl (by decide) (by decide) rfl rfl T.xf.2 (fun _ => rfl) (fun _ => rfl)
  have GEIN : FnOk P w K mg base CX0 1 fEIN dEIN ["self", "table"] (XS.spInit CEN "table") := XS.fn_init T.FEIN T.sK T.sCN rfl (NdefX.nscope_by (by decide +kernel)) rfl rfl (by decide) (by decide) rfl rfl T.xfN.2 (fun _ => rfl) (fun _ => rfl)
  have GMA : FnOk P w K mg base (CX P w) 7 fMA dMA ["first", "second"] (spMM K CE CT_) := ok_MM T.FMA GBP T.gBP T.kBP T.bBP GCR T.gCR T.kCR T.bCR T.mkT GUI T.gCT_ T.bUI T.eC T.gE GEI T.bEI
  have GLS : FnOk P w K mg base (CX P w) 9 fLS dLS ["first", "second"] (spLS K CEN CT_) := ok_LS T.FLS GRL T.gRL T.kRL T.bRL T.gE T.xf T.exm GMA T.gMA T.kMA T.bMA T.tbl T.mUW GUW T.bUW T.eCN T.gEN GEIN T.bEIN T.list T.gcdm
  have GF1 : FnOk P w K mg base (CX P w) 10 fF1 dF1 ["first", "second"] (spF1 K CEN CT_) := ok_F1 T.FF1 GLS T.gLS T.kLS T.bLS
  have GFA : FnOk P w K mg base CX0 11 fFA dFA ["first", "second"] (N6Z.spFA K) := N6Z.ok_FA T.FFA T.gEN T.exmN GF1 T.gF1 T.kF1 T.bF1
  have GTR : FnOk P w K mg base CX0 5 fTR dTR ["feed", "lists", "words", "parts"] N6K.spTR := N6K.ok_TR T.FTR GTA T.gTA T.kTA T.bTA GRG T.gRG T.kRG T.bRG GWE T.gWE T.kWE T.bWE T.gCT_ T.tbl T.mkT GUI T.bUI T.mUW GUW T.bUW T.range
  clear GEI GEIN GLS GF1
  have GMA := GMA.mono (show 7 ≤ 11 by decide)
  have GTR := GTR.mono (show 5 ≤ 11 by decide)
  have GNM := GNM.mono (show 4 ≤ 11 by decide)
  have GIM := GIM.mono (show 2 ≤ 11 by decide)
  have GFE := GFE.mono (show 1 ≤ 11 by decide)
  have GTA := GTA.mono (show 1 ≤ 11 by decide)
  have GRG := GRG.mono (show 2 ≤ 11 by decide)
  have GNX := GNX.mono (show 4 ≤ 11 by decide)
  refine KW.kept_of F N6L.scLaw len_law (fun cdv A outer s H vs Q E hgA hr h => ?_)
  · obtain ⟨a, ns, rfl, hS, hlen, q⟩ := h
    refine ⟨_, (pss_cons (ps_for PassesOwn.never rfl (pi_range1 rfl T.range (pa_cons (pe_callB (call_max2 rfl) (by rfl) T.max (by decide +kernel) (pa_cons pe_int (pa_cons (pe_callB (call_min2 rfl) (by rfl) T.min (by decide +kernel) (pa_cons pe_int (pa_cons (pe_callB call_len_seq (by rfl) T.len PySem.boot_len (pa_cons (pv 0) pa_nil)) pa_nil))) pa_nil))) pa_nil)) (pg_name (i := 1) N6L.scLaw.nd rfl (.inl rfl))
      (pss_cons (ps_set (i := 2) N6L.scLaw.nd rfl (.inr rfl) (pe_call GFE hr (by rfl) T.gFE T.kFE T.bFE .nil pass0 (pa_cons (pv 0) (pa_cons (pv 1) pa_nil))))
      (pss_cons (ps_setLc (i := 3) (own := [("turn", 16)]) (g := gName 16) (tt := tYes) (te := tCall spRG [] E0 (tCons (tVar 2) tNil)) rfl N6L.scLaw.nd rfl rfl (sw_true rfl rfl rfl (by decide +kernel)) (pi_range1 rfl T.range (pa_cons (pe_call GTA hr (by rfl) T.gTA T.kTA T.bTA .nil pass0 (pa_cons (pv 2) (pa_cons pe_int pa_nil))) pa_nil)) (blkOk_by (own := [("turn", 16)]) (N := ["script", "k", "feed", "first", "second", "third", "lists", "words", "parts", "one", "two", "top", "bottom", "more", "under", "turned", "turn", "place", "word", "part", "low", "high"]) (sc := defScope N6L.sLaw) (by decide +kernel)) (fun _ _ _ _ _ => (pg_name (i := 16) N6L.scLaw.nd rfl (Or.inl rfl) (Or.inr rfl))) (fun _ _ _ _ _ => pts_nil) (fun _ _ _ _ _ => (pe_call GRG hr (by rfl) T.gRG T.kRG T.bRG .nil pass0 (pa_cons (pv 2) pa_nil))))
      (pss_cons (ps_set (i := 4) N6L.scLaw.nd rfl (.inl rfl) (pe_call GNX hr (by rfl) T.gNX T.kNX T.bNX .nil pass0 (pa_cons (pv 2) (pa_cons (pv 3) pa_nil))))
      (pss_cons (ps_set (i := 5) N6L.scLaw.nd rfl (.inl rfl) (pe_call GNX hr (by rfl) T.gNX T.kNX T.bNX .nil pass0 (pa_cons (pv 2) (pa_cons (pv 4) pa_nil))))
      (pss_cons (ps_set (i := 6) N6L.scLaw.nd rfl (.inl rfl) (pe_lst (pa_cons (pv 3) (pa_cons (pv 4) (pa_cons (pv 5) pa_nil)))))
      (pss_cons (ps_set (i := 7) N6L.scLaw.nd rfl (.inl rfl) (pe_lst (pa_cons (pe_call GNM hr (by rfl) T.gNM T.kNM T.bNM .nil pass0 (pa_cons (pv 3) (pa_cons (pv 4) pa_nil))) (pa_cons (pe_call GNM hr (by rfl) T.gNM T.kNM T.bNM .nil pass0 (pa_cons (pv 3) (pa_cons (pv 5) pa_nil))) (pa_cons (pe_call GNM hr (by rfl) T.gNM T.kNM T.bNM .nil pass0 (pa_cons (pv 4) (pa_cons (pv 5) pa_nil))) pa_nil)))))
      (pss_cons (ps_set (i := 8) N6L.scLaw.nd rfl (.inl rfl) (pe_lst (pa_cons (pe_call GFA hr (by rfl) T.gFA T.kFA T.bFA .nil pass0 (pa_cons (pv 3) (pa_cons (pv 4) pa_nil))) (pa_cons (pe_call GFA hr (by rfl) T.gFA T.kFA T.bFA .nil pass0 (pa_cons (pv 3) (pa_cons (pv 5) pa_nil))) (pa_cons (pe_call GFA hr (by rfl) T.gFA T.kFA T.bFA .nil pass0 (pa_cons (pv 4) (pa_cons (pv 5) pa_nil))) pa_nil)))))
      (pss_cons (ps_if (PW.pt (pw_and (pt_val (pe_ix ix_list (pv 7) pe_int (fun _ _ => rfl))) (pw_and1 (pt_val (pe_ix ix_list (pv 7) pe_int (fun _ _ => rfl)))))) (pss_cons (ps_asg (pe_tup (pa_cons (pe_call GMA hr (by rfl) T.gMA T.kMA T.bMA .nil (passes_call takes0 (fun _ _ _ _ z => z)) (pa_cons (pv 3) (pa_cons (pv 4) pa_nil))) (pa_cons (pe_call GMA hr (by rfl) T.gMA T.kMA T.bMA .nil (passes_call takes0 (fun _ _ _ _ z => z)) (pa_cons (pv 4) (pa_cons (pv 5) pa_nil))) pa_nil))) (pg_tup rfl (pgs_cons (pg_name (i := 9) N6L.scLaw.nd rfl (.inl rfl)) (pgs_cons (pg_name (i := 10) N6L.scLaw.nd rfl (.inr rfl)) pgs_nil))))
      (pss_one (ps_if (PW.pt (pw_or (pt_not (pt_val (pe_ix ix_list (pv 7) pe_int (fun _ _ => rfl)))) (pw_or1 (pt_not (pt_val (pe_call GIM hr (by rfl) T.gIM T.kIM T.bIM .nil pass0 (pa_cons (pv 3) (pa_cons (pv 5) (pa_cons (pe_lc (own := [("place", 17)]) (g := gName 17) (tt := tYes) (te := tOp (rIxL K) (tVar 10) (tVar 17)) rfl N6L.scLaw.nd (pi_list (pv 9)) (blkOk_by (own := [("place", 17)]) (N := ["script", "k", "feed", "first", "second", "third", "lists", "words", "parts", "one", "two", "top", "bottom", "more", "under", "turned", "turn", "place", "word", "part", "low", "high"]) (sc := defScope N6L.sLaw) (by decide +kernel)) (fun _ _ _ _ _ => (pg_name (i := 17) N6L.scLaw.nd rfl (Or.inl rfl) (Or.inr rfl))) (fun _ _ _ _ _ => pts_nil) (fun _ _ _ _ _ => (pe_ix ix_list (pv 10) (pv 17) (fun _ _ => rfl)))) pa_nil))))))))) (pss_one (ps_ret pe_bl)) pss_nil))) pss_nil)
      (pss_cons (ps_if (PW.pt (pw_and (pt_cmpR op_notN (pe_ix ix_list (pv 8) pe_int (fun _ _ => rfl)) pe_non (nomark _)) (pw_and1 (pt_cmpR op_notN (pe_ix ix_list (pv 8) pe_int (fun _ _ => rfl)) pe_non (nomark _))))) (pss_cons (ps_asg (pe_tup (pa_cons (pe_ix ix_list (pv 8) pe_int (fun _ _ => rfl)) (pa_cons (pe_ix ix_list (pv 8) pe_int (fun _ _ => rfl)) pa_nil))) (pg_tup rfl (pgs_cons (pg_tup rfl (pgs_cons (pg_name (i := 11) N6L.scLaw.nd rfl (.inl rfl)) (pgs_cons (pg_name (i := 12) N6L.scLaw.nd rfl (.inl rfl)) pgs_nil))) (pgs_cons (pg_tup rfl (pgs_cons (pg_name (i := 13) N6L.scLaw.nd rfl (.inl rfl)) (pgs_cons (pg_name (i := 14) N6L.scLaw.nd rfl (.inl rfl)) pgs_nil))) pgs_nil))))
      (pss_one (ps_if (PW.pt (pw_or (pt_cmpR op_isN (pe_ix ix_list (pv 8) pe_int (fun _ _ => rfl)) pe_non (nomark _)) (pw_or1 (pt_cmpR op_gt (pe_op op_mul (pe_op op_mul (pe_ix ix_tup (pe_ix ix_list (pv 8) pe_int (fun _ _ => rfl)) pe_int (fun _ _ => rfl)) (pv 12)) (pv 14)) (pe_op op_mul (pe_op op_mul (pv 11) (pv 13)) (pe_ix ix_tup (pe_ix ix_list (pv 8) pe_int (fun _ _ => rfl)) pe_int (fun _ _ => rfl))) (nomark _))))) (pss_one (ps_ret pe_bl)) pss_nil))) pss_nil)
      (pss_cons (ps_if (pt_cmpR (op_neD hr.units) (pe_lc (own := [("word", 18), ("part", 19)]) (g := gTup K 2 (gCons (gName 18) (gCons (gName 19) gNil))) (tt := tAnd (tB (tVar 18)) (tOr (tTest (tOp (fun x y H Q => y = V.non ∧ Q (V.bl (decide (x = V.non))) H) (tVar 19) (tC .non))) (tTest (tOp (rI0 fun i j => V.bl (decide (j < i))) (tOp (rIxT K) (tVar 19) (tC (.int 0))) (tOp (rIxT K) (tVar 19) (tC (.int 1))))))) (te := tVar 18) rfl N6L.scLaw.nd (GZ.pi_zipS (by rfl) T.zip (pa_cons (pv 7) (pa_cons (pv 8) pa_nil))) (blkOk_by (own := [("word", 18), ("part", 19)]) (N := ["script", "k", "feed", "first", "second", "third", "lists", "words", "parts", "one", "two", "top", "bottom", "more", "under", "turned", "turn", "place", "word", "part", "low", "high"]) (sc := defScope N6L.sLaw) (by decide +kernel)) (fun _ _ _ _ _ => (pg_tup rfl (pgs_cons (pg_name (i := 18) N6L.scLaw.nd rfl (Or.inl rfl) (Or.inr rfl)) (pgs_cons (pg_name (i := 19) N6L.scLaw.nd rfl (Or.inl rfl) (Or.inr rfl)) pgs_nil)))) (fun _ _ _ _ _ => pts_one (PW.pt (pw_and (pt_val (pv 18)) (pw_and1 (PW.pt (pw_or (pt_cmpR op_isN (pv 19) pe_non (nomark _)) (pw_or1 (pt_cmpR op_gt (pe_ix ix_tup (pv 19) pe_int (fun _ _ => rfl)) (pe_ix ix_tup (pv 19) pe_int (fun _ _ => rfl)) (nomark _))))))))) (fun _ _ _ _ _ => (pv 18))) (pe_lst pa_nil) (nomark _)) (pss_one (ps_ret pe_bl)) pss_nil)
      (pss_cons (ps_if (pt_not (pt_val (pe_call GTR hr (by rfl) T.gTR T.kTR T.bTR .nil pass0 (pa_cons (pv 2) (pa_cons (pv 6) (pa_cons (pv 7) (pa_cons (pv 8) pa_nil))))))) (pss_one (ps_ret pe_bl)) pss_nil)
      (pss_cons (ps_setLc (i := 15) (own := [("one", 9)]) (g := gName 9) (tt := tYes) (te := GR.tBack K (tLc (iList K (tVar 9)) (gTup K 2 (gCons (gName 20) (gCons (gName 21) gNil))) tYes (tTup (tCons (tOp (rI0 fun i j => V.int (i - j)) (tC (.int 0)) (tVar 21)) (tCons (tOp (rI0 fun i j => V.int (i - j)) (tC (.int 0)) (tVar 20)) tNil))) [20, 21]) (tPart (tUn (rU fun i => V.int (-i)) (tC (.int 1))))) rfl N6L.scLaw.nd rfl rfl (sw_true rfl rfl rfl (by decide +kernel)) (pi_list (pv 6)) (blkOk_by (own := [("one", 9)]) (N := ["script", "k", "feed", "first", "second", "third", "lists", "words", "parts", "one", "two", "top", "bottom", "more", "under", "turned", "turn", "place", "word", "part", "low", "high"]) (sc := defScope N6L.sLaw) (by decide +kernel)) (fun _ _ _ _ _ => (pg_name (i := 9) N6L.scLaw.nd rfl (Or.inl rfl) (Or.inr rfl))) (fun _ _ _ _ _ => pts_nil) (fun _ _ _ _ _ => (GR.pe_back (pe_lc (own := [("low", 20), ("high", 21)]) (g := gTup K 2 (gCons (gName 20) (gCons (gName 21) gNil))) (tt := tYes) (te := (tTup (tCons (tOp (rI0 fun i j => V.int (i - j)) (tC (.int 0)) (tVar 21)) (tCons (tOp (rI0 fun i j => V.int (i - j)) (tC (.int 0)) (tVar 20)) tNil)))) rfl N6L.scLaw.nd (pi_list (pv 9)) (blkOk_by (own := [("low", 20), ("high", 21)]) (N := ["script", "k", "feed", "first", "second", "third", "lists", "words", "parts", "one", "two", "top", "bottom", "more", "under", "turned", "turn", "place", "word", "part", "low", "high"]) (sc := { kind := .function, names := [(".0", .local), ("one", .local)], isGenerator := false, isCoroutine := false }) (by decide +kernel)) (fun _ _ _ _ _ => (pg_tup rfl (pgs_cons (pg_name (i := 20) N6L.scLaw.nd rfl (Or.inl rfl) (Or.inr rfl)) (pgs_cons (pg_name (i := 21) N6L.scLaw.nd rfl (Or.inl rfl) (Or.inr rfl)) pgs_nil)))) (fun _ _ _ _ _ => pts_nil) (fun _ _ _ _ _ => (pe_tup (pa_cons (pe_op op_sub pe_int (pv 21)) (pa_cons (pe_op op_sub pe_int (pv 20)) pa_nil))))) (po_some (pe_un un_neg pe_int)))))
      (pss_cons (ps_if (pt_cmpR (op_neD hr.units) (pe_lst (pa_cons (pe_call GNM hr (by rfl) T.gNM T.kNM T.bNM .nil pass0 (pa_cons (pe_ix ix_list (pv 15) pe_int (fun _ _ => rfl)) (pa_cons (pe_ix ix_list (pv 15) pe_int (fun _ _ => rfl)) pa_nil))) (pa_cons (pe_call GFA hr (by rfl) T.gFA T.kFA T.bFA .nil pass0 (pa_cons (pe_ix ix_list (pv 15) pe_int (fun _ _ => rfl)) (pa_cons (pe_ix ix_list (pv 15) pe_int (fun _ _ => rfl)) pa_nil))) pa_nil))) (pe_lst (pa_cons (pe_ix ix_list (pv 7) pe_int (fun _ _ => rfl)) (pa_cons (pe_ix ix_list (pv 8) pe_int (fun _ _ => rfl)) pa_nil))) (nomark _)) (pss_one (ps_ret pe_bl)) pss_nil)
      (pss_one (ps_for PassesOwn.never rfl (pi_list (pv 6)) (pg_name (i := 9) N6L.scLaw.nd rfl (.inl rfl))
      (pss_one (ps_if (PW.pt (pw_or (pt_cmpR (op_neD hr.units) (pe_call GFA hr (by rfl) T.gFA T.kFA T.bFA .nil pass0 (pa_cons (pv 9) (pa_cons (pv 9) pa_nil))) (pe_ifExp (pt_cmpR (op_neD hr.units) (pv 9) (pe_lst pa_nil) (nomark _)) (pe_tup (pa_cons pe_int (pa_cons pe_int pa_nil))) (pe_tup (pa_cons pe_int (pa_cons pe_int pa_nil)))) (nomark _)) (pw_or1 (pt_cmpR op_isnot_bl (pe_call GNM hr (by rfl) T.gNM T.kNM T.bNM .nil pass0 (pa_cons (pv 9) (pa_cons (pv 9) pa_nil))) pe_bl (nomark _))))) (pss_one (ps_ret pe_bl)) pss_nil))))))))))))))))))
      (pss_one (ps_ret pe_bl))), ?_⟩
    have l1s : 1 ≤ sizeLine := by decide
    have l2s : 2 ≤ sizeLine := by decide
    have l3s : 3 ≤ sizeLine := by decide
    refine ⟨.ref a, rfl, a, ns.map V.int, rfl, .inl hS, 3, ((ns.map V.int).length : Int), rfl, 1, _, rfl, _, rfl, ?_⟩
    generalize hm : (if (if ((ns.map V.int).length : Int) < 3 then ((ns.map V.int).length : Int) else 3) > 1 then (if ((ns.map V.int).length : Int) < 3 then ((ns.map V.int).length : Int) else 3) else 1) = m
    have m0 : 0 ≤ m ∧ m ≤ 3 := by subst hm; split <;> split <;> omega
    refine ⟨by omega, by omega, for_range (lo := 0) (n := m.toNat) (fun i σ H' => Same H H' ∧ ∃ r1 r2 r3 r4 r5 r6 r7 r8 r9 r10 r11 r12 r13 r14 r15 r16 r17 r18 r19 r20 r21 : Option V, σ = [some (.ref a), r1, r2, r3, r4, r5, r6, r7, r8, r9, r10, r11, r12, r13, r14, r15, r16, r17, r18, r19, r20, r21]) ⟨Same.refl H, _, _, _, _, _, _, _, _, _, _, _, _, _, _, _, _, _, _, _, _, _, rfl⟩ ?_ (fun σ H1 _ => q _)⟩
    rintro i σ H' hi ⟨sm, r1, r2, r3, r4, r5, r6, r7, r8, r9, r10, r11, r12, r13, r14, r15, r16, r17, r18, r19, r20, r21, rfl⟩
    refine ⟨.ref a, rfl, .int (0 + (i : Int)), rfl, a, ns, 0 + (i : Int), rfl, sm.seq hS, by omega, by omega, fun H1 f s1 nf fe => ?_⟩
    have hf0 : H f = none := sm.free nf
    have sm1 := sm.trans s1
    clear sm s1 nf hm m0
    -- first
    refine ⟨.ref f, rfl, f, 5, rfl, by decide, by decide, fe, fun H2 n c2 fe2 n0 n1 => ⟨n, rfl, by omega, by omega, fun D1 nD => ?_⟩⟩
    have nDf := fe2.ne nD
    refine lc_range (lo := 0) (n := n.toNat) (fun j Hz => Ch f H2 Hz ∧ FeedAt Hz f ∧ ∃ acc es, Hz D1 = some (.lst acc) ∧ PairsAt Hz acc es ∧ es.length = j ∧ ∀ r ∈ es, r.1 < r.2) ⟨Ch.of_same (same_new nD), fe2.same (same_new nD), [], [], upd_same, trivial, rfl, fun _ z => (List.not_mem_nil z).elim⟩ ?_ ?_
    · rintro j Hz hj ⟨cz, fz, acc, es, eD, pz, le, blt⟩
      refine ⟨rfl, iteT (B := True) ⟨.ref f, rfl, f, rfl, fz, fun H3 u x z c3 f3 nu hu hlt => ?_⟩⟩
      have eD2 := c3 _ _ nDf eD
      have lp := pz.length
      refine ⟨acc, eD2, small3000 (by omega), Ch.again nD (cz.trans c3), f3.upd nDf, acc ++ [.ref u], es ++ [(x, z)], upd_same, pairs_put eD2 ((pairs_ch c3 fz pz).append ⟨⟨u, rfl, hu⟩, trivial⟩), by rw [List.length_append, le]; rfl, fun s hs => ?_⟩
      rcases List.mem_append.mp hs with h | h
      · exact blt s h
      · rw [List.mem_singleton.mp h]; exact hlt
    rintro H3 ⟨c3, fe3, xs, A, e1, pa, lA, ltA⟩
    have lA : A.length ≤ 4 := by omega
    have LA : Lst3 f H3 D1 A := ⟨nDf, ⟨xs, e1, pa⟩, by omega, ltA⟩
    have sm3 := (c2.trans c3).old hf0 sm1
    clear c2 fe2 c3 sm1 fe nD
    -- second, third
    refine ⟨.ref f, rfl, .ref D1, rfl, f, D1, xs, A, rfl, fe3, nDf, e1, pa, by omega, ltA, fun H4 D2 ys B c4 fe4 n2 e2 pb lB ltB => ?_⟩
    have lB : B.length ≤ 6 := by omega
    have n2f := fe3.ne n2
    have LB : Lst3 f H4 D2 B := ⟨n2f, ⟨ys, e2, pb⟩, by omega, ltB⟩
    have LA := LA.ch c4 fe3
    refine ⟨.ref f, rfl, .ref D2, rfl, f, D2, ys, B, rfl, fe4, n2f, e2, pb, by omega, ltB, fun H5 D3 zs C c5 fe5 n3 e3 pc lC ltC => ?_⟩
    have lC : C.length ≤ 8 := by omega
    have LC : Lst3 f H5 D3 C := ⟨fe4.ne n3, ⟨zs, e3, pc⟩, by omega, ltC⟩
    have LA := LA.ch c5 fe4
    have LB := LB.ch c5 fe4
    have sm5 := (c4.trans c5).old hf0 sm3
    clear c4 fe3 c5 fe4 sm3 e1 e2 e3 pa pb pc xs ys zs n2 n3
    -- lists
    refine ⟨.ref D1, rfl, .ref D2, rfl, .ref D3, rfl, l3s, fun la nla => ?_⟩
    have sla := same_new (o := .lst [V.ref D1, .ref D2, .ref D3]) nla
    have ela := upd_same (H := H5) (a := la) (o := .lst [V.ref D1, .ref D2, .ref D3])
    have nlaf := fe5.ne nla
    generalize upd H5 la (.lst [V.ref D1, .ref D2, .ref D3]) = H6 at sla ela ⊢
    have LA := LA.same sla
    have LB := LB.same sla
    have LC := LC.same sla
    have fe6 := fe5.same sla
    have sm6 := sm5.trans sla
    clear sla nla fe5 sm5
    -- words
    obtain ⟨xs, e1, pa⟩ := LA.at_
    obtain ⟨ys, e2, pb⟩ := LB.at_
    obtain ⟨zs, e3, pc⟩ := LC.at_
    refine ⟨.ref D1, rfl, .ref D2, rfl, D1, D2, xs, ys, A, B, rfl, .inl (SqL.of e1), pa, .inl (SqL.of e2), pb, by omega, by omega, fun H7 s7 => ?_⟩
    refine ⟨.ref D1, rfl, .ref D3, rfl, D1, D3, xs, zs, A, C, rfl, .inl (SqL.of (s7 _ _ e1)), pa.same s7, .inl (SqL.of (s7 _ _ e3)), pc.same s7, by omega, by omega, fun H8 s8 => ?_⟩
    have s78 := s7.trans s8
    refine ⟨.ref D2, rfl, .ref D3, rfl, D2, D3, ys, zs, B, C, rfl, .inl (SqL.of (s78 _ _ e2)), pb.same s78, .inl (SqL.of (s78 _ _ e3)), pc.same s78, by omega, by omega, fun H9 s9 => ⟨l3s, fun wa nwa => ?_⟩⟩
    have s69 := s78.trans s9
    have swa := same_new (o := .lst [V.bl (nm A B), .bl (nm A C), .bl (nm B C)]) nwa
    have ewa := upd_same (H := H9) (a := wa) (o := .lst [V.bl (nm A B), .bl (nm A C), .bl (nm B C)])
    have nwaf := (fe6.same s69).ne nwa
    generalize upd H9 wa (.lst [V.bl (nm A B), .bl (nm A C), .bl (nm B C)]) = H10 at swa ewa ⊢
    have s610 := s69.trans swa
    have ela := s610 _ _ ela
    have e1 := s610 _ _ e1
    have e2 := s610 _ _ e2
    have e3 := s610 _ _ e3
    have pa := pa.same s610
    have pb := pb.same s610
    have pc := pc.same s610
    have fe10 := fe6.same s610
    have sm10 := sm6.trans s610
    have LA := LA.same s610
    have LB := LB.same s610
    have LC := LC.same s610
    clear s610 swa nwa s69 s9 s78 s8 s7 fe6 sm6
    -- parts
    refine ⟨.ref D1, rfl, .ref D2, rfl, fa_is (two_of e1 pa e2 pb (by omega) (by omega) ltA) fun H11 v1 s11 f1 => ?_⟩
    refine ⟨.ref D1, rfl, .ref D3, rfl, fa_is (two_of (s11 _ _ e1) (pa.same s11) (s11 _ _ e3) (pc.same s11) (by omega) (by omega) ltA) fun H12 v2 s12 f2 => ?_⟩
    have s112 := s11.trans s12
    refine ⟨.ref D2, rfl, .ref D3, rfl, fa_is (two_of (s112 _ _ e2) (pb.same s112) (s112 _ _ e3) (pc.same s112) (by omega) (by omega) ltB) fun H13 v3 s13 f3 => ⟨l3s, fun pp npp => ?_⟩⟩
    have s1013 := s112.trans s13
    have spp := same_new (o := .lst [v1, v2, v3]) npp
    have epp := upd_same (H := H13) (a := pp) (o := .lst [v1, v2, v3])
    have nppf := (fe10.same s1013).ne npp
    generalize upd H13 pp (.lst [v1, v2, v3]) = H14 at spp epp ⊢
    have s1014 := s1013.trans spp
    have al : Al f H14 la wa pp D1 D2 D3 A B C v1 v2 v3 := ⟨nlaf, nwaf, nppf, s1014 _ _ ela, s1014 _ _ ewa, epp, LA.same s1014, LB.same s1014, LC.same s1014, f1.same (s12.trans (s13.trans spp)), f2.same (s13.trans spp), f3.same spp⟩
    have fe14 := fe10.same s1014
    have sm14 := sm10.trans s1014
    clear s1014 spp npp s1013 s13 s112 s12 s11 f1 f2 f3 fe10 sm10 LA LB LC e1 e2 e3 pa pb pc ela ewa epp
    -- the two matchings behind one another
    refine ⟨.ref wa, rfl, wa, _, 0, _, rfl, rfl, SqL.of al.hw, at_of (j := 0) rfl rfl, _, rfl, ?_⟩
    try simp only [List.set_cons_succ, List.set_cons_zero]
    refine joinT (R := ?R1) (Pj := fun Hy => Same H14 Hy) (fun e key => ?a1) (fun e key => ?a2) ?a3
    case a2 =>
      refine iteF ?_
      have hk := fun o1 o2 => key H14 o1 o2 (Same.refl _)
      generalize H14 = Hx at hk ⊢
      generalize r9 = o1
      generalize r10 = o2
      exact hk o1 o2
    case a1 =>
      refine ⟨.ref wa, rfl, wa, _, 2, _, rfl, rfl, SqL.of al.hw, at_of (j := 2) rfl rfl, _, rfl, ?_⟩
      cases e2 : nm B C with
      | false =>
        refine iteF ?_
        have hk := fun o1 o2 => key H14 o1 o2 (Same.refl _)
        generalize H14 = Hx at hk ⊢
        generalize r9 = o1
        generalize r10 = o2
        exact hk o1 o2
      | true =>
        obtain ⟨xs, e1, pa⟩ := al.L1.at_
        obtain ⟨ys, e2', pb⟩ := al.L2.at_
        obtain ⟨zs, e3, pc⟩ := al.L3.at_
        refine iteT ⟨.ref D1, rfl, .ref D2, rfl, D1, D2, xs, ys, A, B, rfl, .inl (SqL.of e1), pa, .inl (SqL.of e2'), pb, CR.fw_of (by omega), by omega, fun _ H15 c1 ps s15 nc1 hc1 mt1 => ?_, fun z => by rw [e] at z; cases z⟩
        refine ⟨.ref D2, rfl, .ref D3, rfl, D2, D3, ys, zs, B, C, rfl, .inl (SqL.of (s15 _ _ e2')), pb.same s15, .inl (SqL.of (s15 _ _ e3)), pc.same s15, CR.fw_of (by omega), by omega, fun _ H16 c2 qs s16 nc2 hc2 mt2 => ?_, fun z => by rw [e2] at z; cases z⟩
        refine ⟨l2s, fun t nt => ⟨t, _, rfl, SqT.of upd_same, rfl, .ref c1, [.ref c2], rfl, .ref c2, [], rfl, rfl, ?_⟩⟩
        have st := same_new (o := .tup [V.ref c1, .ref c2]) nt
        have s1417 := s15.trans (s16.trans st)
        have hc1 := (s16.trans st) _ _ hc1
        have hc2 := st _ _ hc2
        generalize upd H16 t (.tup [V.ref c1, .ref c2]) = H17 at st s1417 hc1 hc2 ⊢
        refine ⟨.ref wa, rfl, wa, _, 1, _, rfl, rfl, SqL.of (s1417 _ _ al.hw), at_of (j := 1) rfl rfl, _, rfl, ?_⟩
        rw [nm_tr e e2]
        have m1 : K96.Mt2 A B ps := mt1
        have m2 : K96.Mt2 B C qs := mt2
        have m3 : Mt A C (K96.cmp2 ps qs) := K96.cmp2_mt m1 m2
        have lps : ps.length = A.length := mt1.1
        refine iteF ⟨.ref D1, rfl, .ref D3, rfl, .ref c1, rfl, c1, rfl, ⟨_, SqL.of hc1⟩, fun D nD => ?_⟩
        refine lc_list (K := K) (a := c1) (xs := ps.map V.int) (fun i Hz => Same H17 Hz ∧ Hz D = some (.lst (((K96.cmp2 ps qs).take i).map V.int))) ⟨same_new nD, upd_same⟩ (fun i Hz _ z => SqL.of (z.1 _ _ hc1)) ?_ ?_
        · rintro i y Hz hy ⟨sz, eD⟩
          rw [List.getElem?_map] at hy
          obtain ⟨x, hx, rfl⟩ := Option.map_eq_some_iff.mp hy
          obtain ⟨j, k, rfl, h2, h3, _⟩ := K96.cmp2_at m1 m2 hx
          have hi := (List.getElem?_eq_some_iff.mp hx).1
          refine ⟨rfl, iteT (B := True) ⟨.ref c2, rfl, .int (j : Int), rfl, c2, _, _, .int (k : Int), rfl, rfl, SqL.of (sz _ _ hc2), at_of (j := j) rfl (by rw [List.getElem?_map, h2]; rfl), ?_⟩⟩
          refine ⟨_, eD, small3000 (by rw [List.length_map, List.length_take]; omega), same_again nD sz, ?_⟩
          rw [upd_same, List.take_add_one, h3, Option.toList_some, List.map_append]
          rfl
        rintro H18 ⟨s18, eD⟩
        have lcm : (K96.cmp2 ps qs).length = ps.length := List.length_map _
        rw [List.length_map, ← lcm, List.take_length] at eD
        have s1418 := s1417.trans s18
        refine ⟨D1, D3, D + 1, xs, zs, A, C, .ref D, .list (dInts (K96.cmp2 ps qs)), rfl, .inl (SqL.of (s1418 _ _ e1)), pa.same s1418, .inl (SqL.of (s1418 _ _ e3)), pc.same s1418, by omega, by omega, .lst (Nat.ne_of_lt (Nat.lt_succ_self _)) eD (DV.dv_ints _), fun H19 s19 => ?_⟩
        rw [mat_ok m3]
        refine ⟨_, rfl, iteF ?_⟩
        try simp only [List.set_cons_succ, List.set_cons_zero]
        have hk := fun o1 o2 => key H19 o1 o2 (s1418.trans s19)
        generalize some (V.ref c1) = o1
        generalize some (V.ref c2) = o2
        exact hk o1 o2
    case a3 =>
    intro H15 r9 r10 s15
    have al := al.same s15
    have fe15 := fe14.same s15
    have sm15 := sm14.trans s15
    clear s15 fe14 sm14
    -- factors over a list between
    refine ⟨.ref pp, rfl, pp, _, 0, _, rfl, rfl, SqL.of al.hp, at_of (j := 0) rfl rfl, rfl, _, rfl, ?_⟩
    refine joinQ (R := ?R2) (Pj := fun Hy => Same H15 Hy) (fun e key => ?b1) (fun e key => ?b2) ?b3
    case b2 =>
      refine iteF ?_
      have hk := fun o1 o2 o3 o4 => key H15 o1 o2 o3 o4 (Same.refl _)
      generalize H15 = Hx at hk ⊢
      generalize r11 = o1
      generalize r12 = o2
      generalize r13 = o3
      generalize r14 = o4
      exact hk o1 o2 o3 o4
    case b1 =>
      obtain ⟨p, q, V_, fd, hv1, hfd, ft⟩ := al.f1.yes e
      refine ⟨.ref pp, rfl, pp, _, 2, _, rfl, rfl, SqL.of al.hp, at_of (j := 2) rfl rfl, rfl, _, rfl, ?_⟩
      rcases al.f3 with ⟨p3, q3, W_, fd3, hv3, hfd3, ft3⟩ | ⟨hv3, _⟩
      · rw [show (!decide (v3 = V.non)) = true by rw [hv3]; rfl]
        refine iteT ⟨.ref pp, rfl, pp, _, 0, _, rfl, rfl, SqL.of al.hp, at_of (j := 0) rfl rfl, .ref pp, rfl, pp, _, 2, _, rfl, rfl, SqL.of al.hp, at_of (j := 2) rfl rfl, l2s, fun t nt => ?_⟩
        have st := same_new (o := .tup [v1, v3]) nt
        have et := upd_same (H := H15) (a := t) (o := .tup [v1, v3])
        generalize upd H15 t (.tup [v1, v3]) = H16 at st et ⊢
        refine ⟨t, _, rfl, SqT.of et, rfl, v1, [v3], rfl, fd, _, hv1, SqT.of (st _ _ hfd), rfl, .int ((p : Nat) : Int), [.int ((q : Nat) : Int)], rfl, .int ((q : Nat) : Int), [], rfl, rfl, v3, [], rfl, fd3, _, hv3, SqT.of (st _ _ hfd3), rfl, .int ((p3 : Nat) : Int), [.int ((q3 : Nat) : Int)], rfl, .int ((q3 : Nat) : Int), [], rfl, rfl, rfl, ?_⟩
        have al16 := al.same st
        rcases al16.f2 with ⟨p2, q2, X_, fd2, hv2, hfd2, ft2⟩ | ⟨_, no⟩
        · obtain ⟨b1, b2⟩ := ft_small ft (by omega) (by omega)
          obtain ⟨b3, b4⟩ := ft_small ft3 (by omega) (by omega)
          obtain ⟨b5, b6⟩ := ft_small ft2 (by omega) (by omega)
          have ov := K96.over_le ft ft3 ft2
          have lt : ¬ ((p : Nat) : Int) * ((p3 : Nat) : Int) * ((q2 : Nat) : Int) < ((p2 : Nat) : Int) * ((q : Nat) : Int) * ((q3 : Nat) : Int) := by
            rw [← Int.natCast_mul, ← Int.natCast_mul, ← Int.natCast_mul, ← Int.natCast_mul]; omega
          refine ⟨.ref pp, rfl, pp, _, 1, _, rfl, rfl, SqL.of al16.hp, at_of (j := 1) rfl rfl, rfl, _, rfl, ?_⟩
          rw [show decide (v2 = V.non) = false by rw [hv2]; rfl]
          refine iteF ⟨.ref pp, rfl, pp, _, 1, _, rfl, rfl, SqL.of al16.hp, at_of (j := 1) rfl rfl, fd2, _, 0, .int ((p2 : Nat) : Int), hv2, rfl, SqT.of hfd2, at_of (j := 0) rfl rfl, .int ((q : Nat) : Int), rfl, _, _, rfl, rfl, .inl ⟨by omega, by omega⟩, .int ((q3 : Nat) : Int), rfl, _, _, rfl, rfl, .inr ⟨by omega, by omega⟩, .int ((p : Nat) : Int), rfl, .int ((p3 : Nat) : Int), rfl, _, _, rfl, rfl, .inl ⟨by omega, by omega⟩, .ref pp, rfl, pp, _, 1, _, rfl, rfl, SqL.of al16.hp, at_of (j := 1) rfl rfl, fd2, _, 1, .int ((q2 : Nat) : Int), hv2, rfl, SqT.of hfd2, at_of (j := 1) rfl rfl, _, _, rfl, rfl, .inr ⟨by omega, by omega⟩, _, _, rfl, rfl, _, rfl, ?_⟩
          rw [decide_eq_false lt]
          refine iteF ?_
          try simp only [List.set_cons_succ, List.set_cons_zero]
          have hk := fun o1 o2 o3 o4 => key H16 o1 o2 o3 o4 st
          generalize some (V.int ((p : Nat) : Int)) = o1
          generalize some (V.int ((q : Nat) : Int)) = o2
          generalize some (V.int ((p3 : Nat) : Int)) = o3
          generalize some (V.int ((q3 : Nat) : Int)) = o4
          exact hk o1 o2 o3 o4
        · exact absurd no (K96.over_no ft ft3)
      · rw [show (!decide (v3 = V.non)) = false by rw [hv3]; rfl]
        refine iteF ?_
        have hk := fun o1 o2 o3 o4 => key H15 o1 o2 o3 o4 (Same.refl _)
        generalize H15 = Hx at hk ⊢
        generalize r11 = o1
        generalize r12 = o2
        generalize r13 = o3
        generalize r14 = o4
        exact hk o1 o2 o3 o4
    case b3 =>
    intro H16 r11 r12 r13 r14 s16
    have al := al.same s16
    have fe16 := fe15.same s16
    have sm16 := sm15.trans s16
    clear s16 fe15 sm15
    -- words and factors
    refine ⟨.ref wa, rfl, .ref pp, rfl, wa, pp, _, _, rfl, SqL.of al.hw, .inl (SqL.of al.hp), fun J G wk hG D nD => ?_⟩
    refine lc_it wk (fun i Hz => Same H16 Hz ∧ Hz D = some (.lst [])) ⟨same_new nD, upd_same⟩ (fun i Hz _ z => hG _ z.1) ?_ ?_
    · rintro i v Hz Hy hi ⟨sz, eD⟩ ⟨T, x, y, rfl, nT, rfl, hx, hy⟩
      obtain ⟨X, Y, rfl, fr⟩ := al.at_ hx hy
      have sT := same_new (o := .tup [V.bl (nm X Y), y]) nT
      have s2 := sz.trans sT
      have eD2 := sT _ _ eD
      have fr := fr.same s2
      refine ⟨T, _, rfl, SqT.of upd_same, rfl, .bl (nm X Y), [y], rfl, y, [], rfl, rfl, rfl, ?_⟩
      refine ⟨.bl (nm X Y), rfl, _, rfl, ?_⟩
      cases e : nm X Y with
      | false => exact iteF (iteF ⟨by rw [e] at s2; exact s2, by rw [e] at eD2; exact eD2⟩)
      | true =>
        obtain ⟨p, q, fd, rfl, hfd, le⟩ := nm_yes e fr
        rw [e] at hfd s2 eD2
        refine iteT ⟨.ref fd, rfl, rfl, _, rfl, iteF ⟨.ref fd, rfl, fd, _, 0, .int ((p : Nat) : Int), rfl, rfl, SqT.of hfd, at_of (j := 0) rfl rfl, .ref fd, rfl, fd, _, 1, .int ((q : Nat) : Int), rfl, rfl, SqT.of hfd, at_of (j := 1) rfl rfl, _, _, rfl, rfl, _, rfl, ?_⟩⟩
        rw [decide_eq_false (show ¬ ((q : Nat) : Int) < ((p : Nat) : Int) by omega)]
        exact iteF ⟨s2, eD2⟩
    rintro H17 ⟨s17, eD⟩
    refine ⟨Nat.zero_le _, fun z nz => ?_⟩
    have sz := same_new (o := .lst []) nz
    refine ⟨.list [], .list [], .lst (SqL.of (sz _ _ eD)) .nil, .lst (SqL.of upd_same) .nil, shaped_lst [], shaped_lst [], _, rfl, ?_⟩
    have s18 := s17.trans sz
    generalize upd H17 z (.lst []) = H18 at s18 ⊢
    refine iteF ?_
    have al := al.same s18
    have fe18 := fe16.same s18
    have sm18 := sm16.trans s18
    clear s18 s17 sz eD nz nD fe16 sm16
    -- tables
    refine ⟨.ref f, rfl, .ref la, rfl, .ref wa, rfl, .ref pp, rfl, f, la, wa, pp, _, _, _, rfl, fe18, al.three, fun H19 c19 fe19 => ⟨_, rfl, iteF ?_⟩⟩
    have al := al.ch c19 fe18
    have sm19 := c19.old hf0 sm18
    clear c19 fe18 sm18
    -- turned
    refine ⟨.ref la, rfl, la, rfl, ⟨_, SqL.of al.hl⟩, fun D nD => ?_⟩
    refine lc_list (K := K) (a := la) (xs := [.ref D1, .ref D2, .ref D3]) (fun i Hz => Same H19 Hz ∧ ∃ acc : List V, Hz D = some (.lst acc) ∧ acc.length = i ∧ ∀ j X, j < i → [A, B, C][j]? = some X → ∃ d, acc[j]? = some (.ref d) ∧ MirAt Hz D X d) ⟨same_new nD, [], upd_same, rfl, fun _ _ h => absurd h (Nat.not_lt_zero _)⟩ (fun i Hz _ z => SqL.of (z.1 _ _ al.hl)) ?_ ?_
    · rintro i y Hz hy ⟨sz, acc, eD, la_, hm⟩
      have alz := al.same sz
      obtain ⟨d0, X, rfl, eX, ls⟩ := l3_at alz.L1 alz.L2 alz.L3 hy
      obtain ⟨_, ⟨xs, hxs, pxs⟩, llen, llt⟩ := ls
      have i3 : i < 3 := (List.getElem?_eq_some_iff.mp hy).1
      have lxs := pxs.length
      refine ⟨rfl, iteT (B := True) ⟨.ref d0, rfl, d0, rfl, ⟨_, SqL.of hxs⟩, fun D' nD' => ?_⟩⟩
      refine lc_list (K := K) (a := d0) (xs := xs) (fun m Hw => Same Hz Hw ∧ ∃ acc2 : List V, Hw D' = some (.lst acc2) ∧ PairsAt Hw acc2 ((X.take m).map K96.ng)) ⟨same_new nD', [], upd_same, trivial⟩ (fun m Hw _ z => SqL.of (z.1 _ _ hxs)) ?_ ?_
      · rintro m y Hw hy2 ⟨sw, acc2, eD', pw⟩
        obtain ⟨q, r, rfl, er, hq2⟩ := XT.pairs_get pxs hy2
        have hq3 := sw _ _ hq2
        have lp := pw.length
        rw [List.length_map, List.length_take] at lp
        refine ⟨q, _, rfl, SqT.of hq3, rfl, .int r.1, [.int r.2], rfl, .int r.2, [], rfl, rfl, rfl, iteT (B := True) ⟨.int r.2, rfl, 0, r.2, rfl, rfl, .int r.1, rfl, 0, r.1, rfl, rfl, l2s, fun u nu => ?_⟩⟩
        have su := same_new (o := .tup [V.int (0 - r.2), .int (0 - r.1)]) nu
        have eD2 := su _ _ eD'
        refine ⟨acc2, eD2, small3000 (by omega), same_again nD' (sw.trans su), acc2 ++ [.ref u], upd_same, ?_⟩
        rw [List.take_add_one, er, Option.toList_some, List.map_append]
        exact pairs_put eD2 ((pw.same su).append ⟨⟨u, rfl, upd_same⟩, trivial⟩)
      rintro Hw ⟨sw, acc2, eD', pw⟩
      rw [lxs, List.take_length] at pw
      refine ⟨1, rfl, _, rfl, rfl, D', _, rfl, SqL.of eD', fun z nz => ?_⟩
      have s2 := same_new (o := .lst acc2.reverse) nz
      have s3 := sw.trans s2
      have eD2 := s3 _ _ eD
      have nzD : z ≠ D := fun h => by rw [h, sw _ _ eD] at nz; cases nz
      refine ⟨acc, eD2, small3000 (by omega), same_again nD (sz.trans s3), acc ++ [.ref z], upd_same, by rw [List.length_append, la_]; rfl, fun j Y hj hY => ?_⟩
      by_cases hji : j < i
      · obtain ⟨d, e1, m1⟩ := hm j Y hji hY
        refine ⟨d, by rw [List.getElem?_append_left (by omega)]; exact e1, (m1.same s3).put eD2⟩
      · obtain rfl : j = i := by omega
        rw [eX] at hY
        obtain rfl := Option.some.inj hY
        refine ⟨z, by rw [List.getElem?_append_right (by omega), la_, Nat.sub_self]; rfl, MirAt.put eD2 ⟨nzD, _, ((X.map K96.ng).reverse), upd_same, pairs_rev (pw.same s2), List.reverse_perm _, by rw [List.length_reverse, List.length_map], fun r hr => ?_⟩⟩
        obtain ⟨r0, h0, rfl⟩ := List.mem_map.mp (List.mem_reverse.mp hr)
        have := llt r0 h0
        show 0 - r0.2 < 0 - r0.1
        omega
    rintro H20 ⟨s20, acc, eD, la_, hm⟩
    obtain ⟨t1, q1, _, y1, R1, h1, p1, m1, k1, w1⟩ := hm 0 A (show 0 < 3 by decide) rfl
    obtain ⟨t2, q2, _, y2, R2, h2, p2, m2, k2, w2⟩ := hm 1 B (show 1 < 3 by decide) rfl
    obtain ⟨t3, q3, _, y3, R3, h3, p3, m3, k3, w3⟩ := hm 2 C (show 2 < 3 by decide) rfl
    have al := al.same s20
    have fe20 := fe19.same s20
    have sm20 := sm19.trans s20
    clear s20 hm la_ nD fe19 sm19
    refine ⟨.ref D, rfl, D, _, 0, _, rfl, rfl, SqL.of eD, at_of (j := 0) rfl q1, .ref D, rfl, D, _, 1, _, rfl, rfl, SqL.of eD, at_of (j := 1) rfl q2, t1, t2, y1, y2, R1, R2, rfl, .inl (SqL.of h1), p1, .inl (SqL.of h2), p2, by omega, by omega, fun H21 s21 => ?_⟩
    rw [nm_mir m1 m2]
    refine ⟨.ref D, rfl, D, _, 0, _, rfl, rfl, SqL.of (s21 _ _ eD), at_of (j := 0) rfl q1, .ref D, rfl, D, _, 2, _, rfl, rfl, SqL.of (s21 _ _ eD), at_of (j := 2) rfl q3, fa_is (two_of (s21 _ _ h1) (p1.same s21) (s21 _ _ h3) (p3.same s21) (by omega) (by omega) w1) fun H22 w s22 fw => ⟨l2s, fun u1 nu1 => ?_⟩⟩
    have su1 := same_new (o := .lst [V.bl (nm A B), w]) nu1
    have eu1 := upd_same (H := H22) (a := u1) (o := .lst [V.bl (nm A B), w])
    generalize upd H22 u1 (.lst [V.bl (nm A B), w]) = H23 at su1 eu1 ⊢
    have s2023 := s21.trans (s22.trans su1)
    have al := al.same s2023
    refine ⟨.ref wa, rfl, wa, _, 0, _, rfl, rfl, SqL.of al.hw, at_of (j := 0) rfl rfl, .ref pp, rfl, pp, _, 1, _, rfl, rfl, SqL.of al.hp, at_of (j := 1) rfl rfl, l2s, fun u2 nu2 => ?_⟩
    have su2 := same_new (o := .lst [V.bl (nm A B), v2]) nu2
    have eu2 := upd_same (H := H23) (a := u2) (o := .lst [V.bl (nm A B), v2])
    generalize upd H23 u2 (.lst [V.bl (nm A B), v2]) = H24 at su2 eu2 ⊢
    have al := al.same su2
    have fw := fw.same (su1.trans su2)
    obtain ⟨dd, g1, g2, g3⟩ := frv_same (K := K) m1 m3 al.f2 fw
    refine ⟨.list [.bool (nm A B), dd], .list [.bool (nm A B), dd], .lst (SqL.of (su2 _ _ eu1)) (.cons (.bl _) (.cons g2 .nil)), .lst (SqL.of eu2) (.cons (.bl _) (.cons g1 .nil)), g3 _, g3 _, _, rfl, ?_⟩
    rw [eqv_same (g3 _)]
    refine iteF ?_
    have fe24 := fe20.same (s2023.trans su2)
    have sm24 := sm20.trans (s2023.trans su2)
    clear s2023 su2 su1 s22 s21 eu1 eu2 nu1 nu2 fw g1 g2 g3 h1 h2 h3 p1 p2 p3 m1 m2 m3 q1 q2 q3 eD fe20 sm20
    -- each against itself
    refine ⟨.ref la, rfl, la, rfl, ⟨_, SqL.of al.hl⟩, for_list (K := K) (a := la) (xs := [.ref D1, .ref D2, .ref D3]) (fun i σ Hz => Same H24 Hz ∧ ∃ r1 r2 r3 r4 r5 r6 r7 r8 r9 r10 r11 r12 r13 r14 r15 r16 r17 r18 r19 r20 r21 : Option V, σ = [some (.ref a), r1, r2, r3, r4, r5, r6, r7, r8, r9, r10, r11, r12, r13, r14, r15, r16, r17, r18, r19, r20, r21]) ⟨Same.refl _, _, _, _, _, _, _, _, _, _, _, _, _, _, _, _, _, _, _, _, _, _, rfl⟩ (fun i σ Hz _ z => SqL.of (z.1 _ _ al.hl)) ?_ ?_⟩
    · rintro i y σ Hz hy ⟨sz, r1, r2, r3, r4, r5, r6, r7, r8, r9, r10, r11, r12, r13, r14, r15, r16, r17, r18, r19, r20, r21, rfl⟩
      have alz := al.same sz
      obtain ⟨d0, X, rfl, eX, ls⟩ := l3_at alz.L1 alz.L2 alz.L3 hy
      obtain ⟨_, ⟨xs, hxs, pxs⟩, llen, llt⟩ := ls
      refine ⟨.ref d0, rfl, .ref d0, rfl, fa_is (two_of hxs pxs hxs pxs llen llen llt) fun H25 v s25 fr => ?_⟩
      obtain ⟨p, q, V_, fd, rfl, hfd, ft⟩ : ∃ (p q : Nat) (V_ : List (Int × Int)) (fd : Addr), v = .ref fd ∧ H25 fd = some (.tup [.int ((p : Nat) : Int), .int ((q : Nat) : Int)]) ∧ K65.Ft X X p q V_ := by
        rcases fr with h | ⟨_, no⟩
        · exact h
        · exact absurd no K66.self_no
      refine ⟨.ref d0, rfl, Nat.zero_le _, fun z nz => ?_⟩
      have s2 := same_new (o := .lst []) nz
      refine ⟨.list (dPairs X), .list [], .lst (SqL.of (s2 _ _ (s25 _ _ hxs))) (dp_pairs (pxs.same (s25.trans s2))), .lst (SqL.of upd_same) .nil, shaped_prs _, shaped_lst [], _, rfl, ?_⟩
      rw [eqv_nil]
      have hfd := s2 _ _ hfd
      have s26 := s25.trans s2
      generalize upd H25 z (.lst []) = H26 at s2 hfd s26 ⊢
      refine joinV2 (R := ?R3) (Pj := fun Hy v => ∃ t, v = .ref t ∧ Same H26 Hy ∧ Hy t = some (.tup [.int ((p : Nat) : Int), .int ((q : Nat) : Int)])) (fun e key => ?c1) (fun e key => ?c2) ?c3
      case c1 =>
        have ne : X ≠ [] := fun h => by rw [h] at e; cases e
        obtain ⟨e1, e2⟩ := K66.self_one ft ne
        refine ⟨l2s, fun t nt => ?_⟩
        have st := same_new (o := .tup [V.int 1, V.int 1]) nt
        have et := upd_same (H := H26) (a := t) (o := .tup [V.int 1, V.int 1])
        generalize upd H26 t (.tup [V.int 1, V.int 1]) = Hq at st et ⊢
        have hk := key Hq (.ref t) ⟨t, rfl, st, by rw [et, e1, e2]; rfl⟩
        generalize V.ref t = vq at hk ⊢
        exact hk
      case c2 =>
        have ne : X = [] := by cases X with | nil => rfl | cons => cases e
        have e0 : p = 0 ∧ q = 1 := by rw [ne] at ft; exact K66.nil_ft ft
        refine ⟨l2s, fun t nt => ?_⟩
        have st := same_new (o := .tup [V.int 0, V.int 1]) nt
        have et := upd_same (H := H26) (a := t) (o := .tup [V.int 0, V.int 1])
        generalize upd H26 t (.tup [V.int 0, V.int 1]) = Hq at st et ⊢
        have hk := key Hq (.ref t) ⟨t, rfl, st, by rw [et, e0.1, e0.2]; rfl⟩
        generalize V.ref t = vq at hk ⊢
        exact hk
      case c3 =>
      rintro H27 v ⟨t, rfl, s27, et⟩
      refine ne_fr (s27 _ _ hfd) et ⟨_, rfl, iteF ?_⟩
      have s3 := s26.trans s27
      refine ⟨.ref d0, rfl, .ref d0, rfl, d0, d0, xs, xs, X, X, rfl, .inl (SqL.of (s3 _ _ hxs)), pxs.same s3, .inl (SqL.of (s3 _ _ hxs)), pxs.same s3, by omega, by omega, fun H28 s28 => ⟨_, _, rfl, rfl, _, rfl, ?_⟩⟩
      rw [nm_sf X, decide_eq_true rfl]
      exact iteF ⟨sz.trans (s3.trans s28), _, _, _, _, _, _, _, _, _, _, _, _, _, _, _, _, _, _, _, _, _, rfl⟩
    · rintro σ Hz ⟨sz, r1, r2, r3, r4, r5, r6, r7, r8, r9, r10, r11, r12, r13, r14, r15, r16, r17, r18, r19, r20, r21, rfl⟩
      exact ⟨sm24.trans sz, _, _, _, _, _, _, _, _, _, _, _, _, _, _, _, _, _, _, _, _, _, rfl⟩
end
end N6L

set_option pp.maxSteps 300
namespace N6E0
open PySem PySem.Spec PyProof.Rows L2 KA KD PH PM RM RN K52b K55 K55b K57 P5I P5P MM XE F5F F6W N6Z N6K
open XT hiding pairs_get
open P5N (Mt nm)
open K66 (NoF)
open N6L
theorem all_mk {l : PySem.W.OpenLaw} {w : World} {K : PySem.W.Frag} {h : Heap} {mg : Str → Option Value} {fa fNU fCO fPIN fPT fBP fNM fIM fMA fCR fFE fTA fRL fLS fF1 fRG fWI fNX fFA fWE fTR CT_ fUI fUA fUW fLAW : Addr} {CE CW fEI ccE cdaE NE : Addr} {odE anE cldE cddE ddE : Option Addr} {slE cslE ccsE : Array (Option Value)} {vsE : Array Value} {kVE dcE pmE ctE ocE clE cclE : Value} {fileE : Str} {tfE : Tok} {nmE qE : Str} {bsE subE : List Value} {snE : List Str} {abE : Bool} {colE : Option Bool} {m0E m1E m2E m3E m5E : Option Value} {CEN CWN fEIN ccEN cdaEN NEN : Addr} {odEN anEN cldEN cddEN ddEN : Option Addr} {slEN cslEN ccsEN : Array (Option Value)} {vsEN : Array Value} {kVEN dcEN pmEN ctEN ocEN clEN cclEN : Value} {fileEN : Str} {tfEN : Tok} {nmEN qEN : Str} {bsEN subEN : List Value} {snEN : List Str} {abEN : Bool} {colEN : Option Bool} {m0EN m1EN m2EN m3EN m5EN : Option Value} (X : K.In h) (G : h.Ns mainGlobals mg) (hfa : mg "law" = some (.ref fa))
    {odNU anNU odCO anCO odPIN anPIN odPT anPT odBP anBP odNM anNM odIM anIM odMA anMA odCR anCR odFE anFE odTA anTA odRL anRL odLS anLS odF1 anF1 odRG anRG odWI anWI odNX anNX odFA anFA odWE anWE odTR anTR odUI anUI odUA anUA odUW anUW odLAW anLAW : Option Addr} {slNU slCO slPIN slPT slBP slNM slIM slMA slCR slFE slTA slRL slLS slF1 slRG slWI slNX slFA slWE slTR slUI slUA slUW slLAW : Array (Option Value)} {ocNU dcNU pmNU cdNU ctNU kVNU ocCO dcCO pmCO cdCO ctCO kVCO ocPIN dcPIN pmPIN cdPIN ctPIN kVPIN ocPT dcPT pmPT cdPT ctPT kVPT ocBP dcBP pmBP cdBP ctBP kVBP ocNM dcNM pmNM cdNM ctNM kVNM ocIM dcIM pmIM cdIM ctIM kVIM ocMA dcMA pmMA cdMA ctMA kVMA ocCR dcCR pmCR cdCR ctCR kVCR ocFE dcFE pmFE cdFE ctFE kVFE ocTA dcTA pmTA cdTA ctTA kVTA ocRL dcRL pmRL cdRL ctRL kVRL ocLS dcLS pmLS cdLS ctLS kVLS ocF1 dcF1 pmF1 cdF1 ctF1 kVF1 ocRG dcRG pmRG cdRG ctRG kVRG ocWI dcWI pmWI cdWI ctWI kVWI ocNX dcNX pmNX cdNX ctNX kVNX ocFA dcFA pmFA cdFA ctFA kVFA ocWE dcWE pmWE cdWE ctWE kVWE ocTR dcTR pmTR cdTR ctTR kVTR ocUI dcUI pmUI cdUI ctUI kVUI ocUA dcUA pmUA cdUA ctUA kVUA ocUW dcUW pmUW cdUW ctUW kVUW vgMOS ocLAW dcLAW pmLAW cdLAW ctLAW kVLAW : Value}
    (aNU : PySem.W.nsIn K mainGlobals "is_number" = some (some (.ref fNU)))
    (lNU : K.lookup fNU = some ⟨ocNU, odNU, .func (PySem.W.fnOf "is_number" "is_number" (defArgs P5I.sNu) (defBody P5I.sNu) (defScope P5I.sNu) .none kVNU dcNU pmNU anNU cdNU ctNU), slNU⟩)
    (cNU : PySem.W.codeIn K cdNU "is_number" = true)
    (kNU : PySem.W.keepIn K (.ref fNU) = true)
    (aCO : PySem.W.nsIn K mainGlobals "contains" = some (some (.ref fCO)))
    (lCO : K.lookup fCO = some ⟨ocCO, odCO, .func (PySem.W.fnOf "contains" "contains" (defArgs P5I.sCont) (defBody P5I.sCont) (defScope P5I.sCont) .none kVCO dcCO pmCO anCO cdCO ctCO), slCO⟩)
    (cCO : PySem.W.codeIn K cdCO "contains" = true)
    (kCO : PySem.W.keepIn K (.ref fCO) = true)
    (aPIN : PySem.W.nsIn K mainGlobals "place_in" = some (some (.ref fPIN)))
    (lPIN : K.lookup fPIN = some ⟨ocPIN, odPIN, .func (PySem.W.fnOf "place_in" "place_in" (defArgs BO.sPI) (defBody BO.sPI) (defScope BO.sPI) .none kVPIN dcPIN pmPIN anPIN cdPIN ctPIN), slPIN⟩)
    (cPIN : PySem.W.codeIn K cdPIN "place_in" = true)
    (kPIN : PySem.W.keepIn K (.ref fPIN) = true)
    (aPT : PySem.W.nsIn K mainGlobals "put_in" = some (some (.ref fPT)))
    (lPT : K.lookup fPT = some ⟨ocPT, odPT, .func (PySem.W.fnOf "put_in" "put_in" (defArgs BO.sPT) (defBody BO.sPT) (defScope BO.sPT) .none kVPT dcPT pmPT anPT cdPT ctPT), slPT⟩)
    (cPT : PySem.W.codeIn K cdPT "put_in" = true)
    (kPT : PySem.W.keepIn K (.ref fPT) = true)
    (aBP : PySem.W.nsIn K mainGlobals "_best_places" = some (some (.ref fBP)))
    (lBP : K.lookup fBP = some ⟨ocBP, odBP, .func (PySem.W.fnOf "_best_places" "_best_places" (defArgs P5P.sBP) (defBody P5P.sBP) (defScope P5P.sBP) .none kVBP dcBP pmBP anBP cdBP ctBP), slBP⟩)
    (cBP : PySem.W.codeIn K cdBP "_best_places" = true)
    (kBP : PySem.W.keepIn K (.ref fBP) = true)
    (aNM : PySem.W.nsIn K mainGlobals "never_more" = some (some (.ref fNM)))
    (lNM : K.lookup fNM = some ⟨ocNM, odNM, .func (PySem.W.fnOf "never_more" "never_more" (defArgs F6W.sNM) (defBody F6W.sNM) (defScope F6W.sNM) .none kVNM dcNM pmNM anNM cdNM ctNM), slNM⟩)
    (cNM : PySem.W.codeIn K cdNM "never_more" = true)
    (kNM : PySem.W.keepIn K (.ref fNM) = true)
    (aIM : PySem.W.nsIn K mainGlobals "is_matching" = some (some (.ref fIM)))
    (lIM : K.lookup fIM = some ⟨ocIM, odIM, .func (PySem.W.fnOf "is_matching" "is_matching" (defArgs F6W.sIM) (defBody F6W.sIM) (defScope F6W.sIM) .none kVIM dcIM pmIM anIM cdIM ctIM), slIM⟩)
    (cIM : PySem.W.codeIn K cdIM "is_matching" = true)
    (kIM : PySem.W.keepIn K (.ref fIM) = true)
    (aMA : PySem.W.nsIn K mainGlobals "matching" = some (some (.ref fMA)))
    (lMA : K.lookup fMA = some ⟨ocMA, odMA, .func (PySem.W.fnOf "matching" "matching" (defArgs P5N.sMA) (defBody P5N.sMA) (defScope P5N.sMA) .none kVMA dcMA pmMA anMA cdMA ctMA), slMA⟩)
    (cMA : PySem.W.codeIn K cdMA "matching" = true)
    (kMA : PySem.W.keepIn K (.ref fMA) = true)
    (aCR : PySem.W.nsIn K mainGlobals "_crowd" = some (some (.ref fCR)))
    (lCR : K.lookup fCR = some ⟨ocCR, odCR, .func (PySem.W.fnOf "_crowd" "_crowd" (defArgs CR.sCR) (defBody CR.sCR) (defScope CR.sCR) .none kVCR dcCR pmCR anCR cdCR ctCR), slCR⟩)
    (cCR : PySem.W.codeIn K cdCR "_crowd" = true)
    (kCR : PySem.W.keepIn K (.ref fCR) = true)
    (aFE : PySem.W.nsIn K mainGlobals "_law_feed" = some (some (.ref fFE)))
    (lFE : K.lookup fFE = some ⟨ocFE, odFE, .func (PySem.W.fnOf "_law_feed" "_law_feed" (defArgs sFeed) (defBody sFeed) (defScope sFeed) .none kVFE dcFE pmFE anFE cdFE ctFE), slFE⟩)
    (cFE : PySem.W.codeIn K cdFE "_law_feed" = true)
    (kFE : PySem.W.keepIn K (.ref fFE) = true)
    (aTA : PySem.W.nsIn K mainGlobals "_law_take" = some (some (.ref fTA)))
    (lTA : K.lookup fTA = some ⟨ocTA, odTA, .func (PySem.W.fnOf "_law_take" "_law_take" (defArgs sTake) (defBody sTake) (defScope sTake) .none kVTA dcTA pmTA anTA cdTA ctTA), slTA⟩)
    (cTA : PySem.W.codeIn K cdTA "_law_take" = true)
    (kTA : PySem.W.keepIn K (.ref fTA) = true)
    (aRL : PySem.W.nsIn K mainGlobals "_refuse_large" = some (some (.ref fRL)))
    (lRL : K.lookup fRL = some ⟨ocRL, odRL, .func (PySem.W.fnOf "_refuse_large" "_refuse_large" (defArgs F5F.sRL) (defBody F5F.sRL) (defScope F5F.sRL) .none kVRL dcRL pmRL anRL cdRL ctRL), slRL⟩)
    (cRL : PySem.W.codeIn K cdRL "_refuse_large" = true)
    (kRL : PySem.W.keepIn K (.ref fRL) = true)
    (aLS : PySem.W.nsIn K mainGlobals "_least" = some (some (.ref fLS)))
    (lLS : K.lookup fLS = some ⟨ocLS, odLS, .func (PySem.W.fnOf "_least" "_least" (defArgs F5F.sLS) (defBody F5F.sLS) (defScope F5F.sLS) .none kVLS dcLS pmLS anLS cdLS ctLS), slLS⟩)
    (cLS : PySem.W.codeIn K cdLS "_least" = true)
    (kLS : PySem.W.keepIn K (.ref fLS) = true)
    (aF1 : PySem.W.nsIn K mainGlobals "factor" = some (some (.ref fF1)))
    (lF1 : K.lookup fF1 = some ⟨ocF1, odF1, .func (PySem.W.fnOf "factor" "factor" (defArgs F5F.sF1) (defBody F5F.sF1) (defScope F5F.sF1) .none kVF1 dcF1 pmF1 anF1 cdF1 ctF1), slF1⟩)
    (cF1 : PySem.W.codeIn K cdF1 "factor" = true)
    (kF1 : PySem.W.keepIn K (.ref fF1) = true)
    (aRG : PySem.W.nsIn K mainGlobals "_law_range" = some (some (.ref fRG)))
    (lRG : K.lookup fRG = some ⟨ocRG, odRG, .func (PySem.W.fnOf "_law_range" "_law_range" (defArgs N6Z.sRG) (defBody N6Z.sRG) (defScope N6Z.sRG) .none kVRG dcRG pmRG anRG cdRG ctRG), slRG⟩)
    (cRG : PySem.W.codeIn K cdRG "_law_range" = true)
    (kRG : PySem.W.keepIn K (.ref fRG) = true)
    (aWI : PySem.W.nsIn K mainGlobals "_law_wider" = some (some (.ref fWI)))
    (lWI : K.lookup fWI = some ⟨ocWI, odWI, .func (PySem.W.fnOf "_law_wider" "_law_wider" (defArgs N6Z.sWI) (defBody N6Z.sWI) (defScope N6Z.sWI) .none kVWI dcWI pmWI anWI cdWI ctWI), slWI⟩)
    (cWI : PySem.W.codeIn K cdWI "_law_wider" = true)
    (kWI : PySem.W.keepIn K (.ref fWI) = true)
    (aNX : PySem.W.nsIn K mainGlobals "_law_next" = some (some (.ref fNX)))
    (lNX : K.lookup fNX = some ⟨ocNX, odNX, .func (PySem.W.fnOf "_law_next" "_law_next" (defArgs N6Z.sNX) (defBody N6Z.sNX) (defScope N6Z.sNX) .none kVNX dcNX pmNX anNX cdNX ctNX), slNX⟩)
    (cNX : PySem.W.codeIn K cdNX "_law_next" = true)
    (kNX : PySem.W.keepIn K (.ref fNX) = true)
    (aFA : PySem.W.nsIn K mainGlobals "_law_factor" = some (some (.ref fFA)))
    (lFA : K.lookup fFA = some ⟨ocFA, odFA, .func (PySem.W.fnOf "_law_factor" "_law_factor" (defArgs N6Z.sFA) (defBody N6Z.sFA) (defScope N6Z.sFA) .none kVFA dcFA pmFA anFA cdFA ctFA), slFA⟩)
    (cFA : PySem.W.codeIn K cdFA "_law_factor" = true)
    (kFA : PySem.W.keepIn K (.ref fFA) = true)
    (aWE : PySem.W.nsIn K mainGlobals "_law_wear" = some (some (.ref fWE)))
    (lWE : K.lookup fWE = some ⟨ocWE, odWE, .func (PySem.W.fnOf "_law_wear" "_law_wear" (defArgs N6Z.sWE) (defBody N6Z.sWE) (defScope N6Z.sWE) .none kVWE dcWE pmWE anWE cdWE ctWE), slWE⟩)
    (cWE : PySem.W.codeIn K cdWE "_law_wear" = true)
    (kWE : PySem.W.keepIn K (.ref fWE) = true)
    (aTR : PySem.W.nsIn K mainGlobals "_law_tables_right" = some (some (.ref fTR)))
    (lTR : K.lookup fTR = some ⟨ocTR, odTR, .func (PySem.W.fnOf "_law_tables_right" "_law_tables_right" (defArgs N6Z.sTR) (defBody N6Z.sTR) (defScope N6Z.sTR) .none kVTR dcTR pmTR anTR cdTR ctTR), slTR⟩)
    (cTR : PySem.W.codeIn K cdTR "_law_tables_right" = true)
    (kTR : PySem.W.keepIn K (.ref fTR) = true)
    (aC : PySem.W.nsIn K mainGlobals "Table" = some (some (.ref CT_)))
    (pg : PySem.W.plainGet K CT_ Str.empty = true)
    (hd : PySem.W.hasDictIn K CT_ = true)
    (po : PySem.W.plainOver K CT_ = true)
    (sa : PySem.W.findIn K (.ref CT_) "__setattr__" = some (some (.builtin "object.__setattr__")))
    (na0 : PySem.W.findIn K (.ref CT_) "entries" = some none)
    (mk : PySem.W.makesIn K CT_ = true)
    (kc : PySem.W.keepIn K (.ref CT_) = true)
    (aI : PySem.W.findIn K (.ref CT_) "__init__" = some (some (.ref fUI)))
    (iI : PySem.W.isFn K (.ref fUI) = true)
    (lUI : K.lookup fUI = some ⟨ocUI, odUI, .func (PySem.W.fnOf "__init__" "Table.__init__" (defArgs sTI) (defBody sTI) (defScope sTI) .none kVUI dcUI pmUI anUI cdUI ctUI), slUI⟩)
    (cUI : PySem.W.codeIn K cdUI "Table.__init__" = true)
    (kUI : PySem.W.keepIn K (.ref fUI) = true)
    (aUA : PySem.W.findIn K (.ref CT_) "amount" = some (some (.ref fUA)))
    (iUA : PySem.W.isFn K (.ref fUA) = true)
    (lUA : K.lookup fUA = some ⟨ocUA, odUA, .func (PySem.W.fnOf "amount" "Table.amount" (defArgs sTA) (defBody sTA) (defScope sTA) .none kVUA dcUA pmUA anUA cdUA ctUA), slUA⟩)
    (cUA : PySem.W.codeIn K cdUA "Table.amount" = true)
    (kUA : PySem.W.keepIn K (.ref fUA) = true)
    (aUW : PySem.W.findIn K (.ref CT_) "wear" = some (some (.ref fUW)))
    (iUW : PySem.W.isFn K (.ref fUW) = true)
    (lUW : K.lookup fUW = some ⟨ocUW, odUW, .func (PySem.W.fnOf "wear" "Table.wear" (defArgs sTW) (defBody sTW) (defScope sTW) .none kVUW dcUW pmUW anUW cdUW ctUW), slUW⟩)
    (cUW : PySem.W.codeIn K cdUW "Table.wear" = true)
    (kUW : PySem.W.keepIn K (.ref fUW) = true)
    (agMOS : PySem.W.nsIn K mainGlobals "MOST_RANGES" = some (some vgMOS))
    (rgMOS : RelV (.int 12) vgMOS)
    (aGCD : PySem.W.nsIn K mainGlobals "gcd" = some (some (.builtin "math.gcd")))
    (z1 : PySem.W.nsIn K mainGlobals "len" = some none)
    (z2 : PySem.W.nsIn K mainGlobals "zip" = some none)
    (z3 : PySem.W.nsIn K mainGlobals "max" = some none)
    (z4 : PySem.W.nsIn K mainGlobals "min" = some none)
    (z5 : PySem.W.nsIn K mainGlobals "abs" = some none)
    (z6 : PySem.W.nsIn K mainGlobals "range" = some none)
    (z7 : PySem.W.nsIn K mainGlobals "sorted" = some none)
    (z8 : PySem.W.nsIn K mainGlobals "tuple" = some none)
    (z9 : PySem.W.nsIn K mainGlobals "list" = some none)
    (z10 : PySem.W.nsIn K mainGlobals "int" = some none)
    (z11 : PySem.W.nsIn K mainGlobals "enumerate" = some none)
    (z12 : PySem.W.nsIn K mainGlobals "set" = some none)
    (z13 : PySem.W.nsIn K mainGlobals "sum" = some none)
    (z14 : PySem.W.nsIn K mainGlobals "isinstance" = some none)
    (z15 : PySem.W.nsIn K mainGlobals "bool" = some none)
    (z16 : PySem.W.nsIn K mainGlobals "all" = some none)
    (aNLc : PySem.W.nsIn K mainGlobals "More" = some (some (.ref CE)))
    (xL : K.lookup CE = some (excClassObj nmE qE CE NE bsE [.ref CW, .type "ValueError", .type "Exception", .type "BaseException", .type "object"] true snE subE abE colE ddE m0E m1E m2E m3E m5E "ValueError.__new__"))
    (saE : PySem.W.findIn K (.ref CE) "__setattr__" = some (some (.builtin "object.__setattr__")))
    (exE : PySem.W.subIn K (.ref CE) (.type "BaseException") = some true)
    (tyE : PySem.W.typeIn K (.ref CE) = some (.type "type"))
    (kE : PySem.W.keepIn K (.ref CE) = true)
    (iE : PySem.W.findIn K (.ref CE) "__init__" = some (some (.ref fEI)))
    (tIE : PySem.W.typeIn K (.ref fEI) = some (.type "function"))
    (lEI : K.lookup fEI = some ⟨ocE, odE, .func (PySem.W.fnX "__init__" "More.__init__" (defArgs N6L.sEI) (defBody N6L.sEI) (defScope N6L.sEI) [("__class__", ccE)] .none kVE dcE pmE anE (.ref cdaE) ctE), slE⟩)
    (cEI : PySem.W.codeIn K (.ref cdaE) "More.__init__" = true)
    (lcc : K.lookup ccE = some ⟨clE, cldE, .cell (some (.ref CE)), cslE⟩)
    (lcd : K.lookup cdaE = some ⟨cclE, cddE, .fields vsE, ccsE⟩)
    (hv2 : vsE[2]? = some (.str fileE tfE))
    (hfl : (l.prog.main.file == fileE) = true)
    (top : (l.prog.main.scope.names.lookup ("super" : Str)).isSome = false)
    (zsup : PySem.W.nsIn K mainGlobals "super" = some none)
    (anyE : PySem.W.nsIn K cStatics "thirdparty.any" = some none)
    (mroE : PySem.W.mroIn K CE (.ref CE) = some true)
    (supE : PySem.W.ks_superIn K CE CE "__init__" = some (some (.builtin "ValueError.__init__")))
    (sbE : PySem.W.subIn K (.ref CE) (.type "ValueError") = some true)
    (gaE : PySem.W.findIn K (.ref CE) "__getattribute__" = some (some (.builtin "BaseException.__getattribute__")))
    (ggE : PySem.W.findIn K (.ref CE) "__getattr__" = some none)
    (hdE : PySem.W.hasDictIn K CE = true)
    (noE : PySem.W.findIn K (.ref CE) "table" = some none)
    (w4 : PySem.W.subIn K (.ref CE) (.ref CE) = some true)
    (aNLcN : PySem.W.nsIn K mainGlobals "NoFactor" = some (some (.ref CEN)))
    (xLN : K.lookup CEN = some (excClassObj nmEN qEN CEN NEN bsEN [.ref CWN, .type "ValueError", .type "Exception", .type "BaseException", .type "object"] true snEN subEN abEN colEN ddEN m0EN m1EN m2EN m3EN m5EN "ValueError.__new__"))
    (saEN : PySem.W.findIn K (.ref CEN) "__setattr__" = some (some (.builtin "object.__setattr__")))
    (exEN : PySem.W.subIn K (.ref CEN) (.type "BaseException") = some true)
    (tyEN : PySem.W.typeIn K (.ref CEN) = some (.type "type"))
    (kEN : PySem.W.keepIn K (.ref CEN) = true)
    (iEN : PySem.W.findIn K (.ref CEN) "__init__" = some (some (.ref fEIN)))
    (tIEN : PySem.W.typeIn K (.ref fEIN) = some (.type "function"))
    (lEIN : K.lookup fEIN = some ⟨ocEN, odEN, .func (PySem.W.fnX "__init__" "NoFactor.__init__" (defArgs N6L.sEIN) (defBody N6L.sEIN) (defScope N6L.sEIN) [("__class__", ccEN)] .none kVEN dcEN pmEN anEN (.ref cdaEN) ctEN), slEN⟩)
    (cEIN : PySem.W.codeIn K (.ref cdaEN) "NoFactor.__init__" = true)
    (lccN : K.lookup ccEN = some ⟨clEN, cldEN, .cell (some (.ref CEN)), cslEN⟩)
    (lcdN : K.lookup cdaEN = some ⟨cclEN, cddEN, .fields vsEN, ccsEN⟩)
    (hv2N : vsEN[2]? = some (.str fileEN tfEN))
    (hflN : (l.prog.main.file == fileEN) = true)
    (mroEN : PySem.W.mroIn K CEN (.ref CEN) = some true)
    (supEN : PySem.W.ks_superIn K CEN CEN "__init__" = some (some (.builtin "ValueError.__init__")))
    (sbEN : PySem.W.subIn K (.ref CEN) (.type "ValueError") = some true)
    (gaEN : PySem.W.findIn K (.ref CEN) "__getattribute__" = some (some (.builtin "BaseException.__getattribute__")))
    (ggEN : PySem.W.findIn K (.ref CEN) "__getattr__" = some none)
    (hdEN : PySem.W.hasDictIn K CEN = true)
    (noEN : PySem.W.findIn K (.ref CEN) "table" = some none)
    (w4N : PySem.W.subIn K (.ref CEN) (.ref CEN) = some true)
    (aLAW : PySem.W.nsIn K mainGlobals "law" = some (some (.ref fLAW)))
    (lLAW : K.lookup fLAW = some ⟨ocLAW, odLAW, .func (PySem.W.fnOf "law" "law" (defArgs N6L.sLaw) (defBody N6L.sLaw) (defScope N6L.sLaw) .none kVLAW dcLAW pmLAW anLAW cdLAW ctLAW), slLAW⟩)
    (cLAW : PySem.W.codeIn K cdLAW "law" = true)
    (kLAW : PySem.W.keepIn K (.ref fLAW) = true) :
    ∃ fd : FuncData, (∀ (s : Shared) (v : Value), BindsTo s fd ⟨[v], []⟩ [("script", v)]) ∧ ∀ base : Heap, K.In base → base.Ns mainGlobals mg → KW.Kept l.prog w K mg base 12 fa fd ["script"] (N6L.spLaw K) := by
  have e := hfa.symm.trans (PySem.W.mg_of X G aLAW)
  cases e
  have FNU := fun_mk (st := P5I.sNu) lNU cNU kNU
  have bNU := FNU.binds (ps := ["value"]) fun _ _ _ _ _ _ us hl => match us, hl with | [_], _ => rfl
  have FCO := fun_mk (st := P5I.sCont) lCO cCO kCO
  have bCO := FCO.binds (ps := ["outer", "inner"]) fun _ _ _ _ _ _ us hl => match us, hl with | [_, _], _ => rfl
  have FPIN := fun_mk (st := BO.sPI) lPIN cPIN kPIN
  have bPIN := FPIN.binds (ps := ["row", "value"]) fun _ _ _ _ _ _ us hl => match us, hl with | [_, _], _ => rfl
  have FPT := fun_mk (st := BO.sPT) lPT cPT kPT
  have bPT := FPT.binds (ps := ["row", "value"]) fun _ _ _ _ _ _ us hl => match us, hl with | [_, _], _ => rfl
  have FBP := fun_mk (st := P5P.sBP) lBP cBP kBP
  have bBP := FBP.binds (ps := ["first", "second"]) fun _ _ _ _ _ _ us hl => match us, hl with | [_, _], _ => rfl
  have FNM := fun_mk (st := F6W.sNM) lNM cNM kNM
  have bNM := FNM.binds (ps := ["first", "second"]) fun _ _ _ _ _ _ us hl => match us, hl with | [_, _], _ => rfl
  have FIM := fun_mk (st := F6W.sIM) lIM cIM kIM
  have bIM := FIM.binds (ps := ["first", "second", "value"]) fun _ _ _ _ _ _ us hl => match us, hl with | [_, _, _], _ => rfl
  have FMA := fun_mk (st := P5N.sMA) lMA cMA kMA
  have bMA := FMA.binds (ps := ["first", "second"]) fun _ _ _ _ _ _ us hl => match us, hl with | [_, _], _ => rfl
  have FCR := fun_mk (st := CR.sCR) lCR cCR kCR
  have bCR := FCR.binds (ps := ["first", "second", "places"]) fun _ _ _ _ _ _ us hl => match us, hl with | [_, _, _], _ => rfl
  have FFE := fun_mk (st := sFeed) lFE cFE kFE
  have bFE := FFE.binds (ps := ["script", "k"]) fun _ _ _ _ _ _ us hl => match us, hl with | [_, _], _ => rfl
  have FTA := fun_mk (st := sTake) lTA cTA kTA
  have bTA := FTA.binds (ps := ["feed", "many"]) fun _ _ _ _ _ _ us hl => match us, hl with | [_, _], _ => rfl
  have FRL := fun_mk (st := F5F.sRL) lRL cRL kRL
  have bRL := FRL.binds (ps := ["ranges"]) fun _ _ _ _ _ _ us hl => match us, hl with | [_], _ => rfl
  have FLS := fun_mk (st := F5F.sLS) lLS cLS kLS
  have bLS := FLS.binds (ps := ["first", "second"]) fun _ _ _ _ _ _ us hl => match us, hl with | [_, _], _ => rfl
  have FF1 := fun_mk (st := F5F.sF1) lF1 cF1 kF1
  have bF1 := FF1.binds (ps := ["first", "second"]) fun _ _ _ _ _ _ us hl => match us, hl with | [_, _], _ => rfl
  have FRG := fun_mk (st := N6Z.sRG) lRG cRG kRG
  have bRG := FRG.binds (ps := ["feed"]) fun _ _ _ _ _ _ us hl => match us, hl with | [_], _ => rfl
  have FWI := fun_mk (st := N6Z.sWI) lWI cWI kWI
  have bWI := FWI.binds (ps := ["feed", "ranges"]) fun _ _ _ _ _ _ us hl => match us, hl with | [_, _], _ => rfl
  have FNX := fun_mk (st := N6Z.sNX) lNX cNX kNX
  have bNX := FNX.binds (ps := ["feed", "ranges"]) fun _ _ _ _ _ _ us hl => match us, hl with | [_, _], _ => rfl
  have FFA := fun_mk (st := N6Z.sFA) lFA cFA kFA
  have bFA := FFA.binds (ps := ["first", "second"]) fun _ _ _ _ _ _ us hl => match us, hl with | [_, _], _ => rfl
  have FWE := fun_mk (st := N6Z.sWE) lWE cWE kWE
  have bWE := FWE.binds (ps := ["entries", "ranges"]) fun _ _ _ _ _ _ us hl => match us, hl with | [_, _], _ => rfl
  have FTR := fun_mk (st := N6Z.sTR) lTR cTR kTR
  have bTR := FTR.binds (ps := ["feed", "lists", "words", "parts"]) fun _ _ _ _ _ _ us hl => match us, hl with | [_, _, _, _], _ => rfl
  have FUI := fun_mk (st := sTI) lUI cUI kUI
  have bUI := FUI.binds (ps := ["self", "entries"]) fun _ _ _ _ _ _ us hl => match us, hl with | [_, _], _ => rfl
  have FUA := fun_mk (st := sTA) lUA cUA kUA
  have bUA := FUA.binds (ps := ["self", "low", "high"]) fun _ _ _ _ _ _ us hl => match us, hl with | [_, _, _], _ => rfl
  have FUW := fun_mk (st := sTW) lUW cUW kUW
  have bUW := FUW.binds (ps := ["self", "ranges"]) fun _ _ _ _ _ _ us hl => match us, hl with | [_, _], _ => rfl
  have FLAW := fun_mk (st := N6L.sLaw) lLAW cLAW kLAW
  have oexE : OexC K CE := ⟨⟨_, _, _, _, _, _, _, _, _, _, _, _, _, _, _, xL, by rfl⟩, saE, exE, tyE, kE⟩
  have FEI : XS.FunS K l.prog "__init__" "More.__init__" N6L.sEI CE fEI (PySem.W.fnX "__init__" "More.__init__" (defArgs N6L.sEI) (defBody N6L.sEI) (defScope N6L.sEI) [("__class__", ccE)] .none kVE dcE pmE anE (.ref cdaE) ctE) := ⟨⟨_, _, _, _, _, _, _, _, _, _, _, _, _, _, _, _, _, _, _, _, rfl, lEI, cEI, lcc, lcd, hv2, hfl⟩⟩
  have bEI : Binds K (PySem.W.fnX "__init__" "More.__init__" (defArgs N6L.sEI) (defBody N6L.sEI) (defScope N6L.sEI) [("__class__", ccE)] .none kVE dcE pmE anE (.ref cdaE) ctE) ["self", "table"] [] := fun s us _ hl => match us, hl with | [_, _], _ => .of_eq rfl
  have oexEN : OexC K CEN := ⟨⟨_, _, _, _, _, _, _, _, _, _, _, _, _, _, _, xLN, by rfl⟩, saEN, exEN, tyEN, kEN⟩
  have FEIN : XS.FunS K l.prog "__init__" "NoFactor.__init__" N6L.sEIN CEN fEIN (PySem.W.fnX "__init__" "NoFactor.__init__" (defArgs N6L.sEIN) (defBody N6L.sEIN) (defScope N6L.sEIN) [("__class__", ccEN)] .none kVEN dcEN pmEN anEN (.ref cdaEN) ctEN) := ⟨⟨_, _, _, _, _, _, _, _, _, _, _, _, _, _, _, _, _, _, _, _, rfl, lEIN, cEIN, lccN, lcdN, hv2N, hflN⟩⟩
  have bEIN : Binds K (PySem.W.fnX "__init__" "NoFactor.__init__" (defArgs N6L.sEIN) (defBody N6L.sEIN) (defScope N6L.sEIN) [("__class__", ccEN)] .none kVEN dcEN pmEN anEN (.ref cdaEN) ctEN) ["self", "table"] [] := fun s us _ hl => match us, hl with | [_, _], _ => .of_eq rfl
  have T : N6L.Txt l.prog K mg fNU fCO fPIN fPT fBP fNM fIM fMA fCR fFE fTA fRL fLS fF1 fRG fWI fNX fFA fWE fTR CT_ fUI fUA fUW CE fEI CEN fEIN _ _ _ _ _ _ _ _ _ _ _ _ _ _ _ _ _ _ _ _ _ _ _ _ _ := ⟨FNU, PySem.W.mg_of X G aNU, kNU, bNU, FCO, PySem.W.mg_of X G aCO, kCO, bCO, FPIN, PySem.W.mg_of X G aPIN, kPIN, bPIN, FPT, PySem.W.mg_of X G aPT, kPT, bPT, FBP, PySem.W.mg_of X G aBP, kBP, bBP, FNM, PySem.W.mg_of X G aNM, kNM, bNM, FIM, PySem.W.mg_of X G aIM, kIM, bIM, FMA, PySem.W.mg_of X G aMA, kMA, bMA, FCR, PySem.W.mg_of X G aCR, kCR, bCR, FFE, PySem.W.mg_of X G aFE, kFE, bFE, FTA, PySem.W.mg_of X G aTA, kTA, bTA, FRL, PySem.W.mg_of X G aRL, kRL, bRL, FLS, PySem.W.mg_of X G aLS, kLS, bLS, FF1, PySem.W.mg_of X G aF1, kF1, bF1, FRG, PySem.W.mg_of X G aRG, kRG, bRG, FWI, PySem.W.mg_of X G aWI, kWI, bWI, FNX, PySem.W.mg_of X G aNX, kNX, bNX, FFA, PySem.W.mg_of X G aFA, kFA, bFA, FWE, PySem.W.mg_of X G aWE, kWE, bWE, FTR, PySem.W.mg_of X G aTR, kTR, bTR, PySem.W.mg_of X G aC, ⟨⟨pg, hd, po, sa⟩, na0⟩, ⟨mk, aI, iI, kc⟩, FUI, bUI, ⟨aUA, iUA, kUA⟩, FUA, bUA, ⟨aUW, iUW, kUW⟩, FUW, bUW, ⟨_, PySem.W.mg_of X G agMOS, rgMOS⟩, PySem.W.mg_of X G aGCD, PySem.W.mg_none_of X G z1, PySem.W.mg_none_of X G z2, PySem.W.mg_none_of X G z3, PySem.W.mg_none_of X G z4, PySem.W.mg_none_of X G z5, PySem.W.mg_none_of X G z6, PySem.W.mg_none_of X G z7, PySem.W.mg_none_of X G z8, PySem.W.mg_none_of X G z9, PySem.W.mg_none_of X G z10, PySem.W.mg_none_of X G z11, PySem.W.mg_none_of X G z12, PySem.W.mg_none_of X G z13, PySem.W.mg_none_of X G z14, PySem.W.mg_none_of X G z15, PySem.W.mg_none_of X G z16, PySem.W.mg_of X G aNLc, ⟨oexE, iE, tIE⟩, FEI, bEI, ⟨top, PySem.W.mg_none_of X G zsup, anyE⟩, ⟨oexE, mroE, supE, sbE⟩, ⟨⟨gaE, ggE, exE, hdE⟩, noE⟩, PySem.W.exm_ref exE hdE tyE w4, PySem.W.mg_of X G aNLcN, ⟨oexEN, iEN, tIEN⟩, FEIN, bEIN, ⟨oexEN, mroEN, supEN, sbEN⟩, ⟨⟨gaEN, ggEN, exEN, hdEN⟩, noEN⟩, PySem.W.exm_ref exEN hdEN tyEN w4N⟩
  exact ⟨PySem.W.fnOf "law" "law" (defArgs N6L.sLaw) (defBody N6L.sLaw) (defScope N6L.sLaw) .none kVLAW dcLAW pmLAW anLAW cdLAW ctLAW, fun s v => .of_eq rfl, fun base _ _ => N6L.ok_law FLAW T⟩
end N6E0
open PySem PySem.W PyProof.Rows
set_option maxRecDepth 100000 in
set_option maxHeartbeats 0 in
theorem PySem.Challenge.cw_wearswings_k96_whole_lists_one_behind_an_holds : PySem.Challenge.rw_wearswings_k96_whole_lists_one_behind_an.Holds := by
  w_on; o_law; k_head; (case hw => w_witness2)
  k_fill
  refine KW.walk_kept (l := PySem.Challenge.rw_wearswings_k96_whole_lists_one_behind_an) (n := 63) (k := 12) (x := "script") (sp := N6L.spLaw) rfl (by decide) rfl ⟨rfl, by decide, by decide⟩ (fun w h Y => PySem.W.kIn_of Y) ?F (fun K H a ns hl _ hS => ⟨a, ns, rfl, hS, hl, fun _ => rfl⟩)
  case F =>
    intro w mg fa h KX G hmg
    refine' N6E0.all_mk KX G hmg ?aNU ?lNU ?cNU ?kNU ?aCO ?lCO ?cCO ?kCO ?aPIN ?lPIN ?cPIN ?kPIN ?aPT ?lPT ?cPT ?kPT ?aBP ?lBP ?cBP ?kBP ?aNM ?lNM ?cNM ?kNM ?aIM ?lIM ?cIM ?kIM ?aMA ?lMA ?cMA ?kMA ?aCR ?lCR ?cCR ?kCR ?aFE ?lFE ?cFE ?kFE ?aTA ?lTA ?cTA ?kTA ?aRL ?lRL ?cRL ?kRL ?aLS ?lLS ?cLS ?kLS ?aF1 ?lF1 ?cF1 ?kF1 ?aRG ?lRG ?cRG ?kRG ?aWI ?lWI ?cWI ?kWI ?aNX ?lNX ?cNX ?kNX ?aFA ?lFA ?cFA ?kFA ?aWE ?lWE ?cWE ?kWE ?aTR ?lTR ?cTR ?kTR ?aC ?pg ?hd ?po ?sa ?na0 ?mk ?kc ?aI ?iI ?lUI ?cUI ?kUI ?aUA ?iUA ?lUA ?cUA ?kUA ?aUW ?iUW ?lUW ?cUW ?kUW ?agMOS ?rgMOS ?aGCD ?z1 ?z2 ?z3 ?z4 ?z5 ?z6 ?z7 ?z8 ?z9 ?z10 ?z11 ?z12 ?z13 ?z14 ?z15 ?z16 ?aNLc ?xL ?saE ?exE ?tyE ?kE ?iE ?tIE ?lEI ?cEI ?lcc ?lcd ?hv2 ?hfl ?top ?zsup ?anyE ?mroE ?supE ?sbE ?gaE ?ggE ?hdE ?noE ?w4 ?aNLcN ?xLN ?saEN ?exEN ?tyEN ?kEN ?iEN ?tIEN ?lEIN ?cEIN ?lccN ?lcdN ?hv2N ?hflN ?mroEN ?supEN ?sbEN ?gaEN ?ggEN ?hdEN ?noEN ?w4N ?aLAW ?lLAW ?cLAW ?kLAW
    (case aNU => k_is)
    (case lNU => k_is)
    (case cNU => k_is)
    (case kNU => k_is)
    (case aCO => k_is)
    (case lCO => k_is)
    (case cCO => k_is)
    (case kCO => k_is)
    (case aPIN => k_is)
    (case lPIN => k_is)
    (case cPIN => k_is)
    (case kPIN => k_is)
    (case aPT => k_is)
    (case lPT => k_is)
    (case cPT => k_is)
    (case kPT => k_is)
    (case aBP => k_is)
    (case lBP => k_is)
    (case cBP => k_is)
    (case kBP => k_is)
    (case aNM => k_is)
    (case lNM => k_is)
    (case cNM => k_is)
    (case kNM => k_is)
    (case aIM => k_is)
    (case lIM => k_is)
    (case cIM => k_is)
    (case kIM => k_is)
    (case aMA => k_is)
    (case lMA => k_is)
    (case cMA => k_is)
    (case kMA => k_is)
    (case aCR => k_is)
    (case lCR => k_is)
    (case cCR => k_is)
    (case kCR => k_is)
    (case aFE => k_is)
    (case lFE => k_is)
    (case cFE => k_is)
    (case kFE => k_is)
    (case aTA => k_is)
    (case lTA => k_is)
    (case cTA => k_is)
    (case kTA => k_is)
    (case aRL => k_is)
    (case lRL => k_is)
    (case cRL => k_is)
    (case kRL => k_is)
    (case aLS => k_is)
    (case lLS => k_is)
    (case cLS => k_is)
    (case kLS => k_is)
    (case aF1 => k_is)
    (case lF1 => k_is)
    (case cF1 => k_is)
    (case kF1 => k_is)
    (case aRG => k_is)
    (case lRG => k_is)
    (case cRG => k_is)
    (case kRG => k_is)
    (case aWI => k_is)
    (case lWI => k_is)
    (case cWI => k_is)
    (case kWI => k_is)
    (case aNX => k_is)
    (case lNX => k_is)
    (case cNX => k_is)
    (case kNX => k_is)
    (case aFA => k_is)
    (case lFA => k_is)
    (case cFA => k_is)
    (case kFA => k_is)
    (case aWE => k_is)
    (case lWE => k_is)
    (case cWE => k_is)
    (case kWE => k_is)
    (case aTR => k_is)
    (case lTR => k_is)
    (case cTR => k_is)
    (case kTR => k_is)
    (case aC => k_is)
    (case pg => k_is)
    (case hd => k_is)
    (case po => k_is)
    (case sa => k_is)
    (case na0 => k_is)
    (case mk => k_is)
    (case kc => k_is)
    (case aI => k_is)
    (case iI => k_is)
    (case lUI => k_is)
    (case cUI => k_is)
    (case kUI => k_is)
    (case aUA => k_is)
    (case iUA => k_is)
    (case lUA => k_is)
    (case cUA => k_is)
    (case kUA => k_is)
    (case aUW => k_is)
    (case iUW => k_is)
    (case lUW => k_is)
    (case cUW => k_is)
    (case kUW => k_is)
    (case agMOS => k_is)
    (case rgMOS => exact ⟨_, rfl⟩)
    (case aGCD => k_is)
    (case z1 => k_is)
    (case z2 => k_is)
    (case z3 => k_is)
    (case z4 => k_is)
    (case z5 => k_is)
    (case z6 => k_is)
    (case z7 => k_is)
    (case z8 => k_is)
    (case z9 => k_is)
    (case z10 => k_is)
    (case z11 => k_is)
    (case z12 => k_is)
    (case z13 => k_is)
    (case z14 => k_is)
    (case z15 => k_is)
    (case z16 => k_is)
    (case aNLc => k_is)
    (case xL => k_is)
    (case saE => k_is)
    (case exE => k_is)
    (case tyE => k_is)
    (case kE => k_is)
    (case iE => k_is)
    (case tIE => k_is)
    (case lEI => k_is)
    (case cEI => k_is)
    (case lcc => k_is)
    (case lcd => k_is)
    (case hv2 => first | rfl | k_is)
    (case hfl => first | rfl | decide +kernel)
    (case top => first | rfl | decide +kernel)
    (case zsup => k_is)
    (case anyE => k_is)
    (case mroE => k_is)
    (case supE => ks_is)
    (case sbE => k_is)
    (case gaE => k_is)
    (case ggE => k_is)
    (case hdE => k_is)
    (case noE => k_is)
    (case w4 => first | rfl | k_is)
    (case aNLcN => k_is)
    (case xLN => k_is)
    (case saEN => k_is)
    (case exEN => k_is)
    (case tyEN => k_is)
    (case kEN => k_is)
    (case iEN => k_is)
    (case tIEN => k_is)
    (case lEIN => k_is)
    (case cEIN => k_is)
    (case lccN => k_is)
    (case lcdN => k_is)
    (case hv2N => first | rfl | k_is)
    (case hflN => first | rfl | decide +kernel)
    (case mroEN => k_is)
    (case supEN => ks_is)
    (case sbEN => k_is)
    (case gaEN => k_is)
    (case ggEN => k_is)
    (case hdEN => k_is)
    (case noEN => k_is)
    (case w4N => first | rfl | k_is)
    (case aLAW => k_is)
    (case lLAW => k_is)
    (case cLAW => k_is)
    (case kLAW => k_is)

