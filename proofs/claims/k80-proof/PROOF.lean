import PyProof.Rows.All
import Wide.All
import OpenK.AllK
import Wide.FinOn
import HandS.ForMost
import HandS.Flow
import HandS.OwnEq
import HandS.More
import HandS.DictComp
import HandS.List
import KE.KEqDict
import KE.KDictKeyed
import KE.KRevSl
import PyProof.InstNe
import HandS.IsInst
import HandS.SortRule
import HandS.Property
import HandS.ClsMeth
import HandS.Star
import HandS.Codes
import HandS.Strs
import HandS.SetFor
import HandS.RaiseMore
import HandS.Wide
import HandS.Style
import HandS.Walk
import HandS.Zip
import HandS.TupAny
import HandS.Conv
import KE.DataMinMax
import HandS.SortKw
import HandS.Comp
import HandS.Defaults
import HandS.TupMul
import HandS.FStr
import HandS.Text
import KE.KCallOwn
import PySem.Challenge.RW_wearswings_k80_wear_of_orders
set_option Elab.async false
set_option linter.all false
set_option maxRecDepth 100000
set_option maxHeartbeats 16000000
/-! del xs[-3:-1] of a list of at least three -/
namespace DS
open PySem PySem.Spec PyProof.Rows L2
def sel (start stop step : Int) (i : Nat) : Bool :=
  if step > 0 then start ≤ i && i < stop && (i - start) % step == 0 else stop < i && i ≤ start && (start - i) % (-step) == 0
theorem sel_iff (a c : Int) (i : Nat) : sel a c 1 i = decide (a ≤ i ∧ (i : Int) < c) := by
  unfold sel
  rw [if_pos (by decide)]
  have e : ((((i : Int) - a) % 1) == 0) = true := by rw [Int.emod_one]; rfl
  rw [e, Bool.and_true]
  by_cases h1 : a ≤ (i : Int) <;> by_cases h2 : (i : Int) < c <;> simp [h1, h2]
def cutOut (a c : Int) (xs : Array Value) : Array Value := (xs.toList.zipIdx.filterMap fun (x, k) => if sel a c 1 k then none else some x).toArray
theorem keep_all {a c : Int} : ∀ (l : List Value) (s : Nat), ((s + l.length : Nat) : Int) ≤ a → (l.zipIdx s).filterMap (fun (x, k) => if sel a c 1 k then none else some x) = l
  | [], _, _ => rfl
  | x :: l, s, h => by
    rw [List.zipIdx_cons, List.filterMap_cons]
    have e : sel a c 1 s = false := by rw [sel_iff]; exact decide_eq_false (by simp only [List.length_cons] at h; omega)
    have ih := keep_all (a := a) (c := c) l (s + 1) (by simp only [List.length_cons] at h; omega)
    simp only [e, Bool.false_eq_true, if_false]
    rw [ih]
theorem cut_three (pre : List Value) (x y z : Value) : cutOut ((pre.length : Nat) : Int) (((pre.length + 2 : Nat)) : Int) (pre ++ [x, y, z]).toArray = (pre ++ [z]).toArray := by
  unfold cutOut
  congr 1
  show ((pre ++ [x, y, z]).zipIdx.filterMap _) = _
  rw [List.zipIdx_append, List.filterMap_append, keep_all pre 0 (by omega)]
  congr 1
  have e1 : sel ((pre.length : Nat) : Int) (((pre.length + 2 : Nat)) : Int) 1 pre.length = true := by rw [sel_iff]; exact decide_eq_true (by omega)
  have e2 : sel ((pre.length : Nat) : Int) (((pre.length + 2 : Nat)) : Int) 1 (pre.length + 1) = true := by rw [sel_iff]; exact decide_eq_true (by omega)
  have e3 : sel ((pre.length : Nat) : Int) (((pre.length + 2 : Nat)) : Int) 1 (pre.length + 1 + 1) = false := by rw [sel_iff]; exact decide_eq_false (by omega)
  simp only [Nat.zero_add, List.zipIdx_cons, List.zipIdx_nil, List.filterMap_cons, List.filterMap_nil, e1, e2, e3, if_true, Bool.false_eq_true, if_false]
theorem bounds31 (n : Nat) : sliceBounds (some (-3)) (some (-1)) none (n + 3) = (((n : Nat) : Int), ((n + 2 : Nat) : Int), 1) := by
  simp only [sliceBounds, Option.getD_none]
  have h1 : (-3 : Int) < 0 := by decide
  have h2 : (-1 : Int) < 0 := by decide
  simp only [h1, h2, if_true, show (1 : Int) > 0 by decide]
  congr 1
  · omega
  · congr 1; omega
section
variable {prog : Program} {w : World} {A : Around} {E : Value → Shared → Prop} {s : Shared}
theorem del31 {l sl : Addr} {its : Array Value} {n : Nat} {vl vu : Value} {Q : Unit → Shared → Prop} (e : s.heap.get? l = some { cls := .type "list", data := .seq its n }) (hs : s.heap.IsSliceOf sl vl vu .none)
    (pl : IsPart vl (some (-3))) (pu : IsPart vu (some (-1))) (m : Nat) (hm : its.size = m + 3) (hz : its.size ≤ sizeLine)
    (h : Q () { s with heap := s.heap.update l (Obj.mapSeq (cutOut (m : Int) ((m + 2 : Nat) : Int))) }) : wpAny (model prog w) A (delItem (.ref l) (.ref sl)) Q E s := by
  have hl : s.heap.IsList l its := PySem.IsL.isList e
  obtain ⟨os, hos, hcs, hds⟩ := id hs
  have hT : s.TypeIs (.ref sl) "slice" := ⟨os, hos, hcs⟩
  have hst : ¬ ((rawPart none == rawInt 0) = true) := Bool.false_ne_true
  refine wpAny_delItem_slot hl.typeIs (by decide) F.slot_list_delitem (wpAny_call_entry F.slot_list_delitem hl.typeIs F.entry_list_delitem ?_ (F.args_list_delitem_2 _ _))
  unfold Builtin.«list.__delitem__»
  refine wpAny_bind (wpAny_of_eq (a := (Value.ref l, [Value.ref sl])) (by first | rfl | kernel_rfl) ?_)
  show wpAny _ _ (Builtin.List.listSubscript? (.ref sl) >>= _) _ _ s
  unfold Builtin.List.listSubscript?
  refine wpAny_bind (wpAny_bind (wpAny_specialOf hT slice_no_index ?_))
  simp only [Option.isNone_none, if_true]
  refine wpAny_pure ?_
  show wpAny _ _ (typeOf (.ref sl) >>= _) _ _ s
  refine wpAny_bind (wpAny_typeOf hT ?_)
  first
    | rw [if_neg (by decide)]
    | refine PySem.W.KFB.if_not (by decide) ?_
  rw [listSliceParts_eq]
  refine wpAny_bind (wpAny_bind (wpAny_field hos hds rfl (wpAny_bind (wpAny_listPart .none ?_))))
  rw [if_neg hst]
  refine wpAny_bind (wpAny_field hos hds rfl (wpAny_bind (wpAny_listPart pl ?_)))
  refine wpAny_bind (wpAny_field hos hds rfl (wpAny_bind (wpAny_listPart pu (wpAny_pure ?_))))
  unfold Builtin.List.listItems
  refine wpAny_bind (wpAny_bind (wpAny_seqItems e rfl (wpAny_pure ?_)))
  rw [hm]
  refine wpAny_bind (wpAny_of_eq ((sliceIndices_raw (some (-3)) (some (-1)) none (m + 3) (by simp)).trans (congrArg (pure : Int × Int × Int → Sem (Int × Int × Int)) (bounds31 m))) ?_)
  refine wpAny_bind (wpAny_rule ?_)
  have hz2 : (cutOut (m : Int) ((m + 2 : Nat) : Int) its).size ≤ sizeLine + 1 := by
    unfold cutOut
    rw [List.size_toArray]
    refine Nat.le_trans (List.length_filterMap_le _ _) ?_
    rw [List.length_zipIdx, Array.length_toList]
    omega
  show wpAny _ _ (updateSeq l (cutOut (m : Int) ((m + 2 : Nat) : Int)) >>= _) _ _ s
  refine wpAny_bind (wpAny_updateSeq (hz := hz) (_hz' := hz2) e rfl ?_)
  refine wpAny_bind (wpAny_letGo ?_)
  first
    | exact wpAny_pure ⟨.none, rfl, h⟩
    | exact wpAny_pure h
end
theorem split3 : ∀ {pre : List V} {x1 y1 z1 : V} {its : List Value}, Vals (pre ++ [x1, y1, z1]) its → ∃ ip i1 i2 i3, its = ip ++ [i1, i2, i3] ∧ Vals pre ip ∧ RelV x1 i1 ∧ RelV y1 i2 ∧ RelV z1 i3
  | [], _, _, _, _, .cons r1 (.cons r2 (.cons r3 .nil)) => ⟨[], _, _, _, rfl, .nil, r1, r2, r3⟩
  | _ :: pre, _, _, _, _, .cons r0 t => by
    obtain ⟨ip, i1, i2, i3, e, rp, h⟩ := split3 (pre := pre) t
    exact ⟨_ :: ip, i1, i2, i3, by rw [e]; rfl, .cons r0 rp, h⟩
section
variable {X : Cx}
/-- del xs[-3:-1] of a list of at least three -/
def tDel31 (to : TE) (tl th : TO) : TS := fun D σ H => to σ H fun x H1 => tl σ H1 fun l H2 => th σ H2 fun u H3 => l = some (-3) ∧ u = some (-1) ∧ ∃ (a : Addr) (pre : List V) (x1 y1 z1 : V), x = .ref a ∧ H3 a = some (.lst (pre ++ [x1, y1, z1])) ∧
  D.nx σ (upd H3 a (.lst (pre ++ [z1])))
theorem ps_del31 {o : Expr} {lo hi : Option Expr} {to : TE} {tl th : TO} {tpos p2 pos : Pos} (ho : PE X o to) (hl : PO X lo tl) (hu : PO X hi th) : PS X (.Delete [.Subscript o (.Slice lo hi none p2) tpos] pos) (tDel31 to tl th) := by
  refine ⟨fun pins s σ H D I h => ?_⟩
  refine wpAny_Delete (wpAny_deleteEach_cons (wpAny_delete_Subscript (thn (ho.run pins s σ H _ I h) fun u s1 ⟨x, H1, I1, rx, q1⟩ => ?_)))
  refine wpAny_Slice (thn (hl.run pins s1 σ H1 _ I1 q1) fun vl s2 ⟨l, H2, I2, pl, q2⟩ => thn (hu.run pins s2 σ H2 _ I2 q2) fun vu s3 ⟨w, H3, I3, pu, q3⟩ => ?_)
  rw [evalPart_none]
  refine wpAny_pure ?_
  obtain ⟨e1, e2, a, pre, x1, y1, z1, rfl, hH, q⟩ := q3
  subst e1 e2
  cases (show u = Value.ref a from rx)
  have I4 : Inv X pins σ H3 { s3 with heap := s3.heap.push { cls := .type "slice", data := .fields #[vl, vu, .none] } } := I3.kept (t' := s3.toks) fun b o e => Heap.get?_push_of_some _ e
  obtain ⟨z, its, n, r, hlen, e⟩ := I4.lstM hH
  have hn : its.length = pre.length + 3 := by rw [← hlen]; simp
  obtain ⟨ip, i1, i2, i3, ei, rp, r1, r2, r3⟩ : ∃ ip i1 i2 i3, its = ip ++ [i1, i2, i3] ∧ Vals pre ip ∧ RelV x1 i1 ∧ RelV y1 i2 ∧ RelV z1 i3 := split3 r
  subst ei
  have hp : ip.length = pre.length := rp.length.symm
  refine del31 e (Heap.IsSliceOf.new ..) pl pu pre.length (by rw [List.size_toArray]; exact hn) (by rw [List.size_toArray, ← hlen]; exact z) (wpAny_deleteEach_nil ⟨σ, _, I4.lset (ys := pre ++ [z1]) (its' := ip ++ [i3]) (t' := s3.toks) hH e ?_ (rp.append (.cons r3 .nil)) ?_, q⟩)
  · rw [← hp]
    exact cut_three ip i1 i2 i3
  · have := z
    simp only [List.length_append, List.length_cons, List.length_nil] at this ⊢
    omega
end
end DS

/-! set(xs) of a list of ints, with the order's ledger kept (for sorted behind it) -/
namespace KS
open PySem PySem.Spec PyProof.Rows L2
abbrev leer (w : World) : Obj := { cls := .type "set", dict := none, data := .set #[] 0 (.fresh 0 0 (!w.params.followText "set-order")) }
section
variable {P : Program} {w : World} {A : Around} {E : Value → Shared → Prop} {s : Shared}
/-- what stands behind set's own __init__ -/
abbrev Made (w : World) (s : Shared) (ns : List Int) (Q : Shared → Prop) : Prop :=
  ∀ (g : Heap) (tk c : Nat), SetR w g s.heap.objs.size (fun j => decide (j ∈ ns)) c → c ≤ ns.length → (∀ b o, s.heap.get? b = some o → g.get? b = some o) → Q { s with heap := g, toks := tk }
set_option maxHeartbeats 6400000 in
theorem set_lst {l : Addr} {its : Array Value} (ns : List Int) {Q : Value → Shared → Prop} (hh : A.handled = none) (hl : s.heap.IsList l its) (hit : IntsAre its.toList ns) (hb : ns.length + 1 < scanBound)
    (h : Made w s ns (Q (.ref s.heap.objs.size))) : wpAny (model P w) A (call (.type "set") [.ref l]) Q E s := by
  have hn : its.size = ns.length := by
    rw [← Array.length_toList]; exact IntsAre.length hit
  obtain ⟨c0, t0, hm⟩ := F.called_set.mro
  have k1 := F.called_set.made; have k2 := F.called_set.sub; have k3 := F.called_set.notType; have k4 := F.called_set.canCreate; have k5 := F.typeCall_set_1 (.ref l)
  refine wpAny_call (codeAny_of_tree (show wpAny _ _ (callAny (.type "set") _) _ _ _ from ?_))
  have uu : A.under (.builtin "type.__call__" ⟨[.type "set", .ref l], []⟩) = A.in1 := Around.under_plain (weight_type_call_type "set" [.ref l] []) rfl
  refine wpAny_pure ⟨Code.quiet_builtin _ (by decide +kernel), codeAny_builtin F.entry_type_call ?_⟩
  rw [show A.under (.builtin "type.__call__" { ({ pos := [Value.ref l] } : Args) with pos := .type "set" :: [Value.ref l] }) = A.in1 from uu]
  repeat (any_goals (first | assumption | wp_step))
  have hs0 : (s.heap.push (leer w)).get? s.heap.objs.size = some (leer w) := Heap.get?_push_size _ rfl
  refine codeAny_mono (code_set_led1 (.ref l) (E := E) (Q₁ := fun x s1 => x = .ref s.heap.objs.size ∧ s1 = { s with heap := s.heap.push (leer w) }) ⟨rfl, rfl⟩) fun r1 s1 e1 => ?_
  match r1, e1 with
  | .error _, e1 => exact e1
  | .ok (.next), e1 => exact e1.elim
  | .ok (.brk), e1 => exact e1.elim
  | .ok (.cont), e1 => exact e1.elim
  | .ok (.ret x), e1 =>
    obtain ⟨rfl, rfl⟩ := e1
    have hT : Shared.TypeIs { s with heap := s.heap.push (leer w) } (.ref s.heap.objs.size) "set" := ⟨_, hs0, rfl⟩
    have j1 := F.called_set.init.lookup; have j2 := F.called_set.init.bind (.ref s.heap.objs.size)
    repeat (any_goals (first | assumption | wp_step))
    refine codeAny_mono (codeAny_call_builtin (R := wants (fun v s2 => v = .none ∧ ∃ g tk c, s2 = { s with heap := g, toks := tk } ∧ SetR w g s.heap.objs.size (fun j => decide (j ∈ ns)) c ∧ c ≤ ns.length ∧ ∀ b o, s.heap.get? b = some o → g.get? b = some o) E)
      F.called_set.init.plain F.entry_set_init (check_set_init_1 hT ?_)) fun r2 s2 e2 => ?_
    · obtain ⟨ol, a1, a2, nl, a3⟩ := hl
      obtain ⟨xc, xd, xt, xs⟩ := ol
      simp only at a2 a3
      subst a2 a3
      have a4 : (s.heap.push (leer w)).get? l = some { cls := .type "list", dict := xd, data := .seq its nl, slots := xs } := Heap.get?_push_of_some _ a1
      have b1 := F.sub_list_set; have b2 := F.sub_list_frozenset; have b3 : (Value.type "list" == Value.type "dict") = false := by decide
      have a5 : (s.heap.push (leer w)).IsList l its := ⟨_, a4, rfl, nl, rfl⟩
      unfold Builtin.«set.__init__» noKeywords Builtin.Frozenset.updateFrom
      generalize hPI : pyIter = PI
      wp_walk
      subst hPI
      refine wpAny_pyIter_list a5 (wpAny_bind (wpAny_runValue ?_))
      have lt := Heap.lt_size a1
      have sz : (s.heap.push (leer w)).objs.size = s.heap.objs.size + 1 := Heap.size_push ..
      have d1 : l ≠ (s.heap.push (leer w)).objs.size := by rw [sz]; exact Nat.ne_of_lt (Nat.lt_succ_of_lt lt)
      have d2 : s.heap.objs.size ∉ [(s.heap.push (leer w)).objs.size, l] := by
        rw [sz]; intro z; rcases List.mem_cons.mp z with z | z
        · exact absurd z (Nat.ne_of_lt (Nat.lt_succ_self _))
        · exact absurd (List.mem_singleton.mp z) (Nat.ne_of_gt lt)
      have vl : ∀ i v, its[i]? = some v → ∃ (k : Int) (t : Tok), ns[i]? = some k ∧ v = Value.int k t := fun i v e => by
        have hi : i < ns.length := by rw [← hn]; exact (Array.getElem?_eq_some_iff.mp e).1
        obtain ⟨t, et⟩ := IntsAre.int_at hit i v (by rw [Array.getElem?_toList]; exact e)
        exact ⟨ns[i], t, List.getElem?_eq_getElem hi, by rw [et, List.getD_eq_getElem?_getD, List.getElem?_eq_getElem hi]; rfl⟩
      have hq : A.in1.in1.in1.handled = none := by simp [hh]
      refine set_update_ints ((Walks.list hq _ l d1 its).toS) s.heap.objs.size d2 ns hn hb vl (its.size - 0) 0 _ (by omega) (Nat.zero_le _) ⟨⟨_, Heap.get?_push_size _ rfl, rfl, rfl⟩, a5.push _⟩
        ⟨0, Nat.le_refl 0, setR_new_at (Heap.get?_push_of_some _ hs0)⟩ fun s3 c3 mv hc3 R3 => ?_
      obtain ⟨g3, gg, dd, tk3, oo⟩ := s3
      obtain rfl : gg = s.gens := mv.gens
      obtain rfl : dd = s.drawn := mv.drawn
      obtain rfl : oo = s.os := mv.os
      refine (show wpAny _ _ _ _ _ _ from wpAny_pure (show wpAny _ _ (ret Value.none) _ _ _ from wpAny_pure ⟨rfl, g3, tk3, c3, rfl, R3, by omega, fun b o e => ?_⟩))
      have hb0 := Heap.lt_size e
      exact mv.heap b o (by rw [sz]; intro z; rcases List.mem_cons.mp z with z | z
                            · exact absurd z (Nat.ne_of_lt hb0)
                            · exact absurd (List.mem_singleton.mp z) (Nat.ne_of_lt (Nat.lt_succ_of_lt hb0))) (Heap.get?_push_of_some _ (Heap.get?_push_of_some _ e))
    · match r2, e2 with
      | .error _, e2 => exact e2
      | .ok (.next), e2 => exact e2.elim
      | .ok (.brk), e2 => exact e2.elim
      | .ok (.cont), e2 => exact e2.elim
      | .ok (.ret y), e2 =>
        obtain ⟨rfl, g, tk, c, rfl, R2, hc, hk⟩ := e2
        repeat (any_goals (first | assumption | wp_step))
        exact h _ _ _ R2 hc hk
end
section
variable {X : Cx}
/-- set(xs) of a list of ints -/
def rSetL (w : World) (K : PySem.W.Frag) : List V → Hp → VK → Prop := fun vs H Q => ∃ (a : Addr) (ns : List Int), vs = [V.ref a] ∧ SqL K H a (ns.map V.int) ∧ ns.length ≤ 1000 ∧
  ∀ (p : Addr) (c : Nat), H p = none → c ≤ ns.length → Q (.ref p) (upd H p (SetO w p (fun j => decide (j ∈ ns)) c))
theorem cr_setL (hc : X.calm = true) : CallR X (.type "set") (rSetL X.w X.K) := by
  intro pins s σ H vs us Q I r h
  obtain ⟨a, ns, rfl, hS, hlen, q⟩ := h
  rw [Vals.ref1 r]
  obtain ⟨its, rv, pl, hz⟩ := I.list hS
  refine set_lst ns (I.ok.hd hc) pl.isList (by simpa using ints_of_vals rv) (by unfold scanBound; omega) fun g tk c R hcn k => ?_
  exact ⟨.ref _, _, I.laid (t' := tk) k (Nat.le_refl _) (setO_new R), rfl, q _ c (I.hok.fresh (Nat.le_refl _)) hcn⟩
end
end KS

/-! repr(xs) of a list of ints; a law's def whose body knows that no repr is under way -/
namespace KG
open PySem PySem.Spec PyProof.Rows L2
/-! ### the text of a list of ints -/
def datL (ns : List Int) : PyData := .list (ns.map PyData.int)
def reprL (ns : List Int) : Str := (datL ns).shown
theorem small_log {i : Int} {k : Nat} (h0 : 0 < k) (h : i.natAbs < 2 ^ k) : i.natAbs.log2 < k := PySem.Flt.log2_lt_of h0 h
theorem show_all : ∀ (ns : List Int), (∀ n ∈ ns, n.natAbs < 2 ^ 40) → PyData.showableAll (ns.map PyData.int) = true
  | [], _ => rfl
  | a :: r, h => by
    have h1 : a.natAbs.log2 < 1920 := Nat.lt_of_lt_of_le (small_log (by decide) (h a List.mem_cons_self)) (by decide)
    have h2 := show_all r fun n hn => h n (List.mem_cons_of_mem _ hn)
    simp only [List.map_cons, PyData.showableAll, PyData.showable, h2, h1, decide_true, Bool.and_self]
theorem nodict_all : ∀ (ns : List Int), PyData.hasDictAll (ns.map PyData.int) = false
  | [] => rfl
  | a :: r => by simp only [List.map_cons, PyData.hasDictAll, PyData.hasDict, nodict_all r, Bool.or_self]
theorem depth_all : ∀ (ns : List Int), PyData.depthAll (ns.map PyData.int) ≤ 1
  | [] => Nat.zero_le _
  | a :: r => by
    have := depth_all r
    simp only [List.map_cons, PyData.depthAll, PyData.depth]
    omega
theorem leaves_all : ∀ (ns : List Int), (∀ n ∈ ns, n.natAbs < 10 ^ 12) → PyData.leavesShortAll 13 (ns.map PyData.int) = true
  | [], _ => rfl
  | a :: r, h => by
    have h2 := leaves_all r fun n hn => h n (List.mem_cons_of_mem _ hn)
    have h1 : (PyData.shown (.int a)).length ≤ 13 := by
      have := PySem.int_text_length_le10 (a := a) (k := 12) (by decide) (h a List.mem_cons_self)
      have e : (PyData.shown (.int a)).length = (toString a).length := by
        simp only [PyData.shown]
        exact PySem.ofString_length _
      omega
    simp only [List.map_cons, PyData.leavesShortAll, PyData.leavesShort, h2, Bool.and_true, decide_eq_true_eq]
    exact h1
theorem weight_all : ∀ (ns : List Int), (∀ n ∈ ns, n.natAbs < 2 ^ 39) → PyData.weightAll (ns.map PyData.int) ≤ 60 * ns.length
  | [], _ => Nat.le_refl _
  | a :: r, h => by
    have h1 := weight_all r fun n hn => h n (List.mem_cons_of_mem _ hn)
    have h2 : a.natAbs.log2 < 39 := small_log (by decide) (h a List.mem_cons_self)
    simp only [List.map_cons, PyData.weightAll, PyData.weight, List.length_cons]
    split <;> omega
theorem repr_fits {ns : List Int} (h : ∀ n ∈ ns, n.natAbs < 2 ^ 39) (hl : ns.length ≤ 2000) : (reprL ns).length ≤ sizeLine := by
  refine PyData.shown_fits (B := 13) (by decide) (by decide) ?_ ?_
  · show PyData.leavesShort 13 (.list _) = true
    simp only [PyData.leavesShort, leaves_all ns fun n hn => Nat.lt_trans (h n hn) (by decide)]
  · show PyData.weight (.list _) ≤ _
    have := weight_all ns h
    simp only [PyData.weight]
    omega
theorem reads_all {h : Heap} : ∀ {us : List Value} {ns : List Int}, IntsAre us ns → ReadsAll h us (ns.map PyData.int) []
  | _, _, .nil => .nil
  | _, _, .cons n t r => by
    have z := ReadsAll.cons (Reads.int (h := h) n t) (reads_all r)
    exact z
section
variable {X : Cx}
/-- repr(xs) of a list of ints, while no repr is under way -/
def rReprL (K : PySem.W.Frag) : List V → Hp → VK → Prop := fun vs H Q => ∃ (a : Addr) (ns : List Int), vs = [V.ref a] ∧ SqL K H a (ns.map V.int) ∧ (∀ n ∈ ns, n.natAbs < 2 ^ 39) ∧ ns.length ≤ 2000 ∧ Q (.str (reprL ns)) H
theorem cr_reprL (hg : X.A.guards = some []) (hu : X.A.units + 100 < cLine) : CallR X (.builtin "repr") (rReprL X.K) := by
  intro pins s σ H vs us Q I r h
  obtain ⟨a, ns, rfl, hS, hb, hl, q⟩ := h
  rw [Vals.ref1 r]
  obtain ⟨its, rv, ⟨o, n, ho, hc, hdn, hd⟩, hz⟩ := I.list hS
  have rd : Reads s.heap (.ref a) (datL ns) [a] := .list ho hc hd (reads_all (by simpa using ints_of_vals rv))
  refine repr_of_reads' rd (by show PyData.showable (.list _) = true; simp only [PyData.showable]; exact show_all ns fun m hm => Nat.lt_trans (hb m hm) (by decide)) (PyData.noDict_hsm (by show PyData.hasDict (.list _) = false; simp only [PyData.hasDict]; exact nodict_all ns)) hg
    (by have := depth_all ns; show X.A.units + (PyData.depth (.list _) + 1) < cLine; simp only [PyData.depth]; omega) (fun _ _ e => e) (fun g u tk k => ?_) (repr_fits hb hl)
  exact ⟨.str (reprL ns), H, I.kept k, ⟨u, rfl⟩, q⟩
end
end KG

/-! the def of the law itself, called where no repr is under way -/
namespace KW
open PySem PySem.Spec PyProof.Rows L2
/-- the def at f keeps sp where it is called with no repr under way -/
def Kept (P : Program) (w : World) (K : PySem.W.Frag) (mg : Str → Option Value) (base : Heap) (k : Nat) (f : Addr) (fd : FuncData) (ps : List Str) (sp : Sp) : Prop :=
  ∀ (A : Around) (outer : List Env) (s : Shared) (H : Hp) (args : Args) (us : List Value) (vs : List V) (Q : VK) (E : XK), A.guards = some [] → Room k A → Env0 P w K mg base A outer s H →
    BindsTo s fd args (ps.zip us) → Vals vs us → sp vs H Q E → codeAny (model P w) A (.call (.ref f) args) (CR CX0 outer P w H s Q E) s
section
variable {P : Program} {w : World} {K : PySem.W.Frag} {mg : Str → Option Value} {base : Heap}
theorem kept_of {x qual : Str} {st : Stmt} {f : Addr} {fd : FuncData} {N ps : List Str} {k : Nat} {sp : Sp} (F : Fun K x qual st f fd) (S : FnScope N ps (defScope st)) (len : ∀ vs H Q E, sp vs H Q E → vs.length = ps.length)
    (hb : ∀ (cdv : Value) (A : Around) (outer : List Env) (s : Shared) (H : Hp) (vs : List V) (Q : VK) (E : XK), A.guards = some [] → Room k (A.deeper (envOfC qual (defScope st) s.heap.objs.size f cdv)) → sp vs H Q E →
      ∃ t, PSs (cxOf CX0 P w K mg base N qual (defScope st) f cdv A outer s H E).nox (defBody st) t ∧ t { nx := fun _ H' => Q .non H', rt := Q } (start N vs) H) : Kept P w K mg base (k + 1) f fd ps sp := by
  obtain ⟨oc, od, kV, doc, pm, an, cdv, ct, osl, e1, lk, hcd⟩ := F.ex
  subst e1
  intro A outer s H args us vs Q E hg hr e0 bnd r hsp
  obtain ⟨t, d, q⟩ := hb cdv A outer s H vs Q E hg (hr.deeper _) hsp
  have lv := len _ _ _ _ hsp
  have kin : K.In s.heap := e0.mod.kin.keeps fun b o e => (e0.bs b o e).1
  have kd : ∀ y ∈ ps.zip us, (defScope st).names.lookup y.1 = some .local ∨ ((defScope st).names.lookup y.1 = some .cell ∧ ((cellsFrom (s.heap.objs.size + 1) (defScope st).names []).lookup y.1).isSome = true) := by
    rintro ⟨n, v⟩ hy
    exact (S.par n (List.of_mem_zip hy).1).imp id fun z => ⟨z, PySem.W.cellsFrom_some _ _ _ (.inl z)⟩
  refine codeAny_call_function hr.depth (kin _ _ lk) rfl S.co S.gen rfl (PySem.W.codeRec_of kin hcd) (bnd _ _ _ _ (wpAny_newFunctionEnv_cells S.kind kd fun env he s1 x1 => ?_))
  subst he
  refine ⟨(e0.mod.nolimit.keeps fun b o e => (e0.bs b o e).1).keeps x1.toInCall.keep, codeAny_func (wpAny_mono (d.nox.run [] s1 (start N vs) H _ (inv_start S hr.hd e0 lv r x1) q) (fun fl s2 z => ?_) fun _ _ z => z)⟩
  match fl, z with
  | .ret u, ⟨v, σ2, H2, J, rv, q2⟩ => exact ⟨v, H2, J.os, J.bare, J.base, J.hok, rv, q2⟩
  | .next, ⟨σ2, H2, J, q2⟩ => exact ⟨V.non, H2, J.os, J.bare, J.base, J.hok, rfl, q2⟩
  | .brk, ⟨_, _, _, q2⟩ => exact q2.elim
  | .cont, ⟨_, _, _, q2⟩ => exact q2.elim
/-- the heap that tracks the script alone, or nothing where it is the text's own -/
def hpOf (K : PySem.W.Frag) (a : Addr) (o : Obj) (xs : List V) : Hp := fun b => if b = a ∧ K.lookup a = none then some (.frz o (.lst xs)) else none
theorem hpOf_some {K : PySem.W.Frag} {a b : Addr} {o : Obj} {xs : List V} {u : HO} (e : hpOf K a o xs b = some u) : b = a ∧ K.lookup a = none ∧ u = .frz o (.lst xs) := by
  unfold hpOf at e
  split at e
  · rename_i z
    exact ⟨z.1, z.2, (Option.some.inj e).symm⟩
  · cases e
theorem run_law {mb : Str → Option Value} {k : Nat} {fa a : Addr} {fd : FuncData} {x : Str} {sp : Sp} {s1 : Shared} {vs : List Value} {ns : List Int}
    (kin : K.In s1.heap) (h1 : s1.heap.Ns mainGlobals mg) (h2 : s1.heap.Ns builtinsNs mb) (h3 : ∀ y : Str, y ≠ "__name__" → mb y = bootBuiltins y) (h4 : s1.heap.NoLimit) (h5 : s1.gens = #[])
    (ha : s1.heap.get? a = some { cls := .type "list", data := .seq vs.toArray }) (hi : IntsAre vs ns) (hl : ns.length ≤ sizeLine) (hr : Room k callerA)
    (F : ∀ bs : Heap, K.In bs → bs.Ns mainGlobals mg → Kept P w K mg bs k fa fd [x] sp) (hbd : ∀ (s : Shared) (u : Value), BindsTo s fd ⟨[u], []⟩ [(x, u)])
    (hsp : ∀ H : Hp, Only H → SqL K H a (ns.map V.int) → sp [.ref a] H (fun v _ => v = .bl true) fun _ _ _ => False) :
    codeAny (model P w) callerA (.call (.ref fa) ⟨[.ref a], []⟩) (fun r s' => r = .ok (.ret (.bool true)) ∧ OldK s1.heap s'.heap ∧ s'.os = s1.os ∧ AllBare s'.gens) s1 := by
  have rv := vals_ints hi
  let ob : Obj := { cls := .type "list", data := .seq vs.toArray }
  generalize hH : hpOf K a ob (ns.map V.int) = H
  have hsome : ∀ {b u}, H b = some u → b = a ∧ K.lookup a = none ∧ u = .frz ob (.lst (ns.map V.int)) := fun {b u} e => hpOf_some (by rw [hH]; exact e)
  have hO : Only H := fun b => by
    cases e : H b with
    | none => exact .inl rfl
    | some u => exact .inr ⟨_, _, by rw [(hsome e).2.2]⟩
  have hS : SqL K H a (ns.map V.int) := by
    cases e : K.lookup a with
    | none => exact .inl (.inr ⟨ob, by rw [← hH]; exact if_pos ⟨rfl, e⟩⟩)
    | some o =>
      have e2 := kin a o e
      rw [ha] at e2
      cases e2
      exact .inr ⟨_, vs.toArray, _, e, rfl, rfl, rfl, by rw [List.size_toArray, hi.length]; exact hl, by simpa using rv⟩
  have hok : HOk P w H s1.heap := fun b u e => by
    obtain ⟨rfl, _, rfl⟩ := hsome e
    exact ⟨ha, by rw [List.length_map]; exact hl, vs, _, rv, ha⟩
  have free : ∀ {b : Addr} {o : Obj} {es : Array DictEntry} {ep : Nat}, s1.heap.get? b = some o → o.data = .dict es ep → H b = none := fun {b o es ep} e d => by
    cases z : H b with
    | none => rfl
    | some u =>
      obtain ⟨rfl, _, _⟩ := hsome z
      rw [ha] at e
      cases e
      cases d
  have toB : ∀ {b : Addr} {m : Str → Option Value}, s1.heap.Ns b m → (hidT s1.heap H).Ns b m := fun {b m} ⟨o, es, ep, e, d, r⟩ => ⟨o, es, ep, hidT_get e (free e d), d, r⟩
  have kB : K.In (hidT s1.heap H) := fun b o e => hidT_get (kin b o e) (by
    cases z : H b with
    | none => rfl
    | some u =>
      obtain ⟨rfl, z2, _⟩ := hsome z
      rw [z2] at e
      cases e)
  obtain ⟨mc, m1, m2⟩ := h4
  have e0 : Env0 P w K mg (hidT s1.heap H) callerA [] s1 H := ⟨rfl, ⟨kB, toB h1, ⟨mb, toB h2, h3⟩, ⟨mc, toB m1, m2⟩⟩, fun b o e => of_hidT e, Nat.le_of_eq (hidT_size _ _), trivial, fun b hb => (List.not_mem_nil (show b ∈ ([] : List Addr) from hb)).elim, hok, .of_eq h5⟩
  refine codeAny_mono (F _ kB (toB h1) callerA [] s1 H ⟨[.ref a], []⟩ [.ref a] [.ref a] _ _ rfl hr e0 (hbd s1 (.ref a)) (.cons rfl .nil) (hsp H hO hS)) fun r s2 z => ?_
  match r, z with
  | .error _, z => exact z.elim
  | .ok .next, z => exact z.elim
  | .ok .brk, z => exact z.elim
  | .ok .cont, z => exact z.elim
  | .ok (.ret u), ⟨v, H2, os, bare, un, hok2, rr, q⟩ =>
    have q2 : v = .bl true := q
    subst q2
    obtain rfl : u = Value.bool true := rr
    refine ⟨rfl, OldK.of_keep fun b o e => ?_, os, bare⟩
    cases z : H b with
    | none => exact un.keep b o e z (fun m => (List.not_mem_nil (show b ∈ ([] : List Addr) from m)).elim) (by simp)
    | some u =>
      obtain ⟨_, _, rfl⟩ := hsome z
      have t1 := (hok b _ z).1
      have t2 := (hok2 b _ (un.frzs b ob _ z)).1
      rw [e] at t1
      rw [t2, ← t1]
/-- the end: the law's promise over the written part alone -/
theorem walk_kept {l : PySem.W.OpenLaw} {n k : Nat} {q : Program} {loose : List Str} {XP : (Str → Option Value) → Heap → Prop} {YP : World → Heap → Prop} {d : DefRec} {KK : Params → PySem.W.Frag} {sp : PySem.W.Frag → Sp} {x : Str}
    (hn : l.most = some n) (hn2 : n ≤ sizeLine) (hdf : d.params.defaults = []) (hr : Room k callerA) (hY : ∀ (w : World) (h : Heap), YP w h → (KK w.params).In h)
    (F : ∀ (w : World) (mg : Str → Option Value) (fa : Addr) (h : Heap), (KK w.params).In h → h.Ns mainGlobals mg → mg d.name = some (.ref fa) →
      ∃ fd : FuncData, (∀ (s : Shared) (u : Value), BindsTo s fd ⟨[u], []⟩ [(x, u)]) ∧ ∀ bs : Heap, (KK w.params).In bs → bs.Ns mainGlobals mg → Kept l.prog w (KK w.params) mg bs k fa fd [x] (sp (KK w.params)))
    (hsp : ∀ (K : PySem.W.Frag) (H : Hp) (a : Addr) (ns : List Int), ns.length ≤ n → Only H → SqL K H a (ns.map V.int) → sp K [.ref a] H (fun v _ => v = .bl true) fun _ _ _ => False) :
    PySem.W.WalkO q loose XP YP l.row.toRowW d [] (fun f vs => PySem.call f vs) := by
  refine Att.attach_call hn hdf fun w s0 s1 mg mb fa o pm cd doc a vs ns G Y ho hd hcd hmg hobj hints hlen hg => ?_
  obtain ⟨fd, hb, hF⟩ := F w mg fa _ (hY w _ Y) G.T.g hmg
  exact run_law (hY w _ Y) G.T.g G.T.b G.T.builtins G.T.nolimit hg hobj hints (Nat.le_trans hlen hn2) hr hF hb fun H hO hS => hsp (KK w.params) H a ns hlen hO hS
end
end KW

/-! turning points, as mathematics: the stack's way and the law's way -/
namespace PM
/-- r lies between its neighbours b and a -/
abbrev Btw (r b a : Int) : Prop := (b < r ∧ r < a) ∨ (a < r ∧ r < b)
/-- the stack's way from b, a (a on top) on -/
def tq : Int → Int → List Int → List Int
  | _, a, [] => [a]
  | b, a, r :: l => if a = r then tq b a l else if Btw a b r then tq b r l else a :: tq a r l
def ts : Int → List Int → List Int
  | a, [] => [a]
  | a, r :: l => if a = r then ts a l else a :: tq a r l
def tp : List Int → List Int
  | [] => []
  | x :: l => ts x l
/-- repeated readings once -/
def ddf : Int → List Int → List Int
  | _, [] => []
  | p, x :: l => if x = p then ddf p l else x :: ddf x l
def dd : List Int → List Int
  | [] => []
  | x :: l => x :: ddf x l
/-- the law's way, over readings that differ from their neighbours -/
def lq : Int → Int → List Int → List Int
  | _, c, [] => [c]
  | p, c, d :: l => if (decide (c > p) = decide (c > d)) then c :: lq c d l else lq c d l
def lp : List Int → List Int
  | [] => []
  | [x] => [x]
  | x :: y :: l => x :: lq x y l
theorem tq_lq : ∀ (l : List Int) (b p a : Int), a ≠ b → a ≠ p → (a > b ↔ a > p) → tq b a l = lq p a (ddf a l)
  | [], _, _, _, _, _, _ => rfl
  | r :: l, b, p, a, h1, h2, h3 => by
    simp only [tq, ddf]
    by_cases e : a = r
    · rw [if_pos e, if_pos e.symm]
      exact tq_lq l b p a h1 h2 h3
    · rw [if_neg e, if_neg (show ¬ r = a from fun z => e z.symm)]
      simp only [lq]
      by_cases bt : Btw a b r
      · rw [if_pos bt]
        have hk : ¬ (decide (a > p) = decide (a > r)) := by
          intro z
          rw [decide_eq_decide] at z
          omega
        rw [if_neg hk]
        exact tq_lq l b a r (by omega) (fun z => e z.symm) (by omega)
      · rw [if_neg bt]
        have hk : decide (a > p) = decide (a > r) := by
          rw [decide_eq_decide]
          omega
        rw [if_pos hk]
        rw [tq_lq l a a r (fun z => e z.symm) (fun z => e z.symm) Iff.rfl]
theorem ts_lp : ∀ (l : List Int) (a : Int), ts a l = lp (a :: ddf a l)
  | [], _ => rfl
  | r :: l, a => by
    simp only [ts, ddf]
    by_cases e : a = r
    · rw [if_pos e, if_pos e.symm]
      exact ts_lp l a
    · rw [if_neg e, if_neg (show ¬ r = a from fun z => e z.symm)]
      rw [tq_lq l a a r (fun z => e z.symm) (fun z => e z.symm) Iff.rfl]
      rfl
theorem tp_lp (ns : List Int) : tp ns = lp (dd ns) := by
  cases ns with
  | nil => rfl
  | cons a l => exact ts_lp l a
/-- what the stack leaves, goes through the stack as it is -/
theorem tq_again : ∀ (l : List Int) (b a : Int), a ≠ b → ∃ x s, tq b a l = x :: s ∧ x ≠ b ∧ (x > b ↔ a > b) ∧ tq b x s = x :: s
  | [], b, a, h => ⟨a, [], rfl, h, Iff.rfl, rfl⟩
  | r :: l, b, a, h => by
    simp only [tq]
    by_cases e : a = r
    · rw [if_pos e]
      exact tq_again l b a h
    · rw [if_neg e]
      by_cases bt : Btw a b r
      · rw [if_pos bt]
        obtain ⟨x, s, h1, h2, h3, h4⟩ := tq_again l b r (by omega)
        exact ⟨x, s, h1, h2, by omega, h4⟩
      · rw [if_neg bt]
        obtain ⟨y, s, h1, h2, h3, h4⟩ := tq_again l a r (fun z => e z.symm)
        refine ⟨a, y :: s, by rw [h1], h, Iff.rfl, ?_⟩
        simp only [tq]
        have n1 : ¬ Btw a b y := by
          intro z
          have h6 : r > a ↔ y > a := h3.symm
          omega
        rw [if_neg (fun z : a = y => h2 z.symm), if_neg n1, h4]
theorem ts_again : ∀ (l : List Int) (a : Int), tp (ts a l) = ts a l
  | [], _ => rfl
  | r :: l, a => by
    simp only [ts]
    by_cases e : a = r
    · rw [if_pos e]
      exact ts_again l a
    · rw [if_neg e]
      obtain ⟨x, s, h1, h2, _, h4⟩ := tq_again l a r (fun z => e z.symm)
      rw [h1]
      show ts a (x :: s) = a :: x :: s
      simp only [ts]
      rw [if_neg (fun z : a = x => h2 z.symm), h4]
theorem tp_again (ns : List Int) : tp (tp ns) = tp ns := by
  cases ns with
  | nil => rfl
  | cons a l => exact ts_again l a
theorem tq_last : ∀ (l : List Int) (b a z : Int), (a :: l).getLast? = some z → tq b a (l ++ [z]) = tq b a l
  | [], b, a, z, h => by
    have e : a = z := Option.some.inj h
    subst e
    show tq b a [a] = [a]
    simp only [tq, if_true]
  | r :: l, b, a, z, h => by
    have h2 : (r :: l).getLast? = some z := by rw [List.getLast?_cons_cons] at h; exact h
    show tq b a (r :: (l ++ [z])) = tq b a (r :: l)
    simp only [tq]
    by_cases e : a = r
    · rw [if_pos e, if_pos e]
      subst e
      exact tq_last l b a z h2
    · rw [if_neg e, if_neg e, tq_last l b r z h2, tq_last l a r z h2]
theorem ts_last : ∀ (l : List Int) (a z : Int), (a :: l).getLast? = some z → ts a (l ++ [z]) = ts a l
  | [], a, z, h => by
    have e : a = z := Option.some.inj h
    subst e
    show ts a [a] = [a]
    simp only [ts, if_true]
  | r :: l, a, z, h => by
    have h2 : (r :: l).getLast? = some z := by rw [List.getLast?_cons_cons] at h; exact h
    show ts a (r :: (l ++ [z])) = ts a (r :: l)
    simp only [ts]
    by_cases e : a = r
    · rw [if_pos e, if_pos e]
      subst e
      exact ts_last l a z h2
    · rw [if_neg e, if_neg e, tq_last l a r z h2]
theorem tp_last (ns : List Int) (z : Int) (h : ns.getLast? = some z) : tp (ns ++ [z]) = tp ns := by
  cases ns with
  | nil => simp at h
  | cons a l => exact ts_last l a z h
/-- sizes and bounds -/
theorem tq_mem : ∀ (l : List Int) (b a x : Int), x ∈ tq b a l → x = a ∨ x ∈ l
  | [], _, _, x, h => .inl (List.mem_singleton.mp h)
  | r :: l, b, a, x, h => by
    simp only [tq] at h
    split at h
    · rcases tq_mem l b a x h with z | z
      · exact .inl z
      · exact .inr (List.mem_cons_of_mem _ z)
    · split at h
      · rcases tq_mem l b r x h with z | z
        · rw [z]; exact .inr List.mem_cons_self
        · exact .inr (List.mem_cons_of_mem _ z)
      · rcases List.mem_cons.mp h with z | z
        · exact .inl z
        · rcases tq_mem l a r x z with z | z
          · rw [z]; exact .inr List.mem_cons_self
          · exact .inr (List.mem_cons_of_mem _ z)
theorem tq_len : ∀ (l : List Int) (b a : Int), (tq b a l).length ≤ l.length + 1
  | [], _, _ => Nat.le_refl _
  | r :: l, b, a => by
    have h1 := tq_len l b a
    have h2 := tq_len l b r
    have h3 := tq_len l a r
    simp only [tq, List.length_cons]
    split
    · omega
    · split
      · omega
      · rw [List.length_cons]; omega
theorem ts_mem : ∀ (l : List Int) (a x : Int), x ∈ ts a l → x = a ∨ x ∈ l
  | [], _, x, h => .inl (List.mem_singleton.mp h)
  | r :: l, a, x, h => by
    simp only [ts] at h
    split at h
    · rcases ts_mem l a x h with z | z
      · exact .inl z
      · exact .inr (List.mem_cons_of_mem _ z)
    · rcases List.mem_cons.mp h with z | z
      · exact .inl z
      · rcases tq_mem l a r x z with z | z
        · rw [z]; exact .inr List.mem_cons_self
        · exact .inr (List.mem_cons_of_mem _ z)
theorem ts_len : ∀ (l : List Int) (a : Int), (ts a l).length ≤ l.length + 1
  | [], _ => Nat.le_refl _
  | r :: l, a => by
    have h1 := ts_len l a
    have h2 := tq_len l a r
    simp only [ts, List.length_cons]
    split
    · omega
    · rw [List.length_cons]; omega
theorem tp_mem {ns : List Int} {x : Int} (h : x ∈ tp ns) : x ∈ ns := by
  cases ns with
  | nil => exact h
  | cons a l =>
    rcases ts_mem l a x h with z | z
    · rw [z]; exact List.mem_cons_self
    · exact List.mem_cons_of_mem _ z
theorem tp_len (ns : List Int) : (tp ns).length ≤ ns.length := by
  cases ns with
  | nil => exact Nat.le_refl _
  | cons a l => exact ts_len l a
/-- the swings of turning points -/
def rg (a b : Int) : Int × Int := (if b < a then b else a, if b > a then b else a)
def sw : List Int → List (Int × Int)
  | x :: y :: l => rg x y :: sw (y :: l)
  | _ => []
theorem sw_len : ∀ ps : List Int, (sw ps).length = ps.length - 1
  | [] => rfl
  | [_] => rfl
  | x :: y :: l => by
    have := sw_len (y :: l)
    simp only [sw, List.length_cons] at this ⊢
    omega
theorem sw_take : ∀ (ps : List Int) (i : Nat) (x y : Int), ps[i]? = some x → ps[i + 1]? = some y → (sw ps).take (i + 1) = (sw ps).take i ++ [rg x y]
  | [], _, _, _, h, _ => by simp at h
  | [_], 0, _, _, _, h => by simp at h
  | [_], i + 1, _, _, h, _ => by simp at h
  | a :: b :: l, 0, x, y, h, h2 => by
    have e1 : a = x := Option.some.inj h
    have e2 : b = y := Option.some.inj h2
    subst e1 e2
    rfl
  | a :: b :: l, i + 1, x, y, h, h2 => by
    have ih := sw_take (b :: l) i x y h h2
    show rg a b :: (sw (b :: l)).take (i + 1) = rg a b :: (sw (b :: l)).take i ++ [rg x y]
    rw [ih]
    rfl
theorem sw_mem : ∀ (ps : List Int) (B : Nat), (∀ x ∈ ps, x.natAbs < B) → ∀ r ∈ sw ps, r.1.natAbs < B ∧ r.2.natAbs < B
  | [], _, _, r, h => by simp [sw] at h
  | [_], _, _, r, h => by simp [sw] at h
  | x :: y :: l, B, hb, r, h => by
    rcases List.mem_cons.mp (show r ∈ rg x y :: sw (y :: l) from h) with z | z
    · have h1 := hb x List.mem_cons_self
      have h2 := hb y (List.mem_cons_of_mem _ List.mem_cons_self)
      rw [z]
      unfold rg
      constructor <;> (dsimp only; split <;> assumption)
    · exact sw_mem (y :: l) B (fun x hx => hb x (List.mem_cons_of_mem _ hx)) r z
end PM

/-! points taken out, in any order: one count -/
namespace RM
open PM
/-- of four points in a row, the middle two may be taken out -/
abbrev Taken (a b c d : Int) : Prop := ((rg a b).1 ≤ (rg b c).1 ∧ (rg b c).2 ≤ (rg a b).2) ∧ ((rg c d).1 ≤ (rg b c).1 ∧ (rg b c).2 ≤ (rg c d).2)
/-- up and down by turns -/
def ZZ : List Int → Prop
  | x :: y :: z :: r => ((x < y ∧ z < y) ∨ (y < x ∧ y < z)) ∧ ZZ (y :: z :: r)
  | [x, y] => x ≠ y
  | _ => True
inductive Step : List Int → Int × Int → List Int → Prop
  | here {a b c d : Int} {post : List Int} : Taken a b c d → Step (a :: b :: c :: d :: post) (rg b c) (a :: d :: post)
  | there {x : Int} {p q : List Int} {cy : Int × Int} : Step p cy q → Step (x :: p) cy (x :: q)
theorem ZZ.tail {x : Int} : ∀ {p : List Int}, ZZ (x :: p) → ZZ p
  | [], _ => trivial
  | [_], _ => trivial
  | [y, z], h => by
    have h1 := h.1
    show y ≠ z
    omega
  | y :: z :: u :: r, h => h.2
theorem Step.head {x : Int} {p q : List Int} {cy : Int × Int} (h : Step (x :: p) cy q) : ∃ q', q = x :: q' := by
  cases h with
  | here _ => exact ⟨_, rfl⟩
  | there _ => exact ⟨_, rfl⟩
theorem Step.len {p q : List Int} {cy : Int × Int} (h : Step p cy q) : p.length = q.length + 2 := by
  induction h with
  | here _ => simp only [List.length_cons]
  | there _ ih => simp only [List.length_cons]; omega
theorem rg_up {a b : Int} (h : a < b) : rg a b = (a, b) := by unfold rg; rw [if_neg (by omega), if_pos (by omega)]
theorem rg_down {a b : Int} (h : b < a) : rg a b = (b, a) := by unfold rg; rw [if_pos h, if_neg (by omega)]
/-- among points that go up and down -/
theorem taken_iff {a b c d : Int} (h : ZZ (a :: b :: c :: d :: [])) : Taken a b c d ↔ (a < b ∧ c < b ∧ c < d ∧ a ≤ c ∧ b ≤ d) ∨ (b < a ∧ b < c ∧ d < c ∧ c ≤ a ∧ d ≤ b) := by
  have h1 := h.1
  have h2 := h.2.1
  unfold Taken
  rcases h1 with ⟨x, y⟩ | ⟨x, y⟩
  · have z : c < d := by omega
    rw [rg_up x, rg_down y, rg_up z]
    dsimp only
    omega
  · have z : d < c := by omega
    rw [rg_down x, rg_up y, rg_down z]
    dsimp only
    omega
theorem ZZ.four {a b c d : Int} {r : List Int} (h : ZZ (a :: b :: c :: d :: r)) : ZZ (a :: b :: c :: d :: []) := by
  refine ⟨h.1, h.2.1, ?_⟩
  have := h.2.1
  show c ≠ d
  omega
theorem zz_here {a b c d : Int} : ∀ {post : List Int}, ZZ (a :: b :: c :: d :: post) → Taken a b c d → ZZ (a :: d :: post)
  | [], h, t => by
    rcases (taken_iff h.four).mp t with z | z
    · show a ≠ d
      omega
    · show a ≠ d
      omega
  | e :: r, h, t => by
    have h3 := h.2.2.1
    refine ⟨?_, h.2.2.2⟩
    rcases (taken_iff h.four).mp t with z | z <;> omega
theorem zz_cons {x y : Int} {p : List Int} (h : ZZ (x :: y :: p)) : x ≠ y := by
  cases p with
  | nil => exact h
  | cons z r => have := h.1; omega
theorem ZZ.step {p q : List Int} {cy : Int × Int} (h : Step p cy q) : ZZ p → ZZ q := by
  induction h with
  | here t => exact fun z => zz_here z t
  | @there x p q cy h ih =>
    intro z
    have zq := ih z.tail
    cases h with
    | @here a b c d post t =>
      have z1 := z.1
      have ti := (taken_iff z.tail.four).mp t
      refine ⟨?_, zq⟩
      rcases ti with t | t <;> omega
    | @there y p' q' cy' h' =>
      cases q' with
      | nil =>
        have := h'.len
        exact zz_cons z
      | cons u v =>
        cases p' with
        | nil => have := h'.len; simp at this
        | cons u' v' =>
          obtain ⟨v'', e⟩ := h'.head
          have e1 : u = u' := (List.cons.inj e).1
          subst e1
          exact ⟨z.1, zq⟩
/-- two ways to go on meet again -/
theorem diamond {p p1 : List Int} {c1 : Int × Int} (h1 : Step p c1 p1) : ∀ {p2 : List Int} {c2 : Int × Int}, Step p c2 p2 → ZZ p → (c1 = c2 ∧ p1 = p2) ∨ ∃ p3, Step p1 c2 p3 ∧ Step p2 c1 p3 := by
  have key : ∀ {a b c d : Int} {post : List Int} {p2 : List Int} {c2 : Int × Int}, Taken a b c d → Step (b :: c :: d :: post) c2 p2 → ZZ (a :: b :: c :: d :: post) →
      (rg b c = c2 ∧ a :: d :: post = a :: p2) ∨ ∃ p3, Step (a :: d :: post) c2 p3 ∧ Step (a :: p2) (rg b c) p3 := by
    intro a b c d post p2 c2 t h z
    have t1 := (taken_iff z.four).mp t
    cases h with
    | @here _ _ _ e post' t2 =>
      have t3 := (taken_iff z.tail.four).mp t2
      have ebd : b = d := by omega
      subst ebd
      refine .inl ⟨?_, rfl⟩
      have z1 := z.1
      rcases z1 with ⟨x, y⟩ | ⟨x, y⟩
      · rw [rg_down y, rg_up y]
      · rw [rg_up y, rg_down y]
    | @there _ _ q2 _ h2 =>
      cases h2 with
      | @here _ _ e f post' t2 =>
        have t3 := (taken_iff z.tail.tail.four).mp t2
        have za : ZZ (a :: d :: e :: f :: post') := zz_here z t
        have zb : ZZ (a :: b :: c :: f :: post') := ZZ.step (.there (.there (.here t2))) z
        exact .inr ⟨a :: f :: post', .here ((taken_iff za.four).mpr (by omega)), .here ((taken_iff zb.four).mpr (by omega))⟩
      | @there _ _ q3 _ h3 =>
        obtain ⟨q4, rfl⟩ := h3.head
        exact .inr ⟨a :: d :: q4, .there h3, .here t⟩
  induction h1 with
  | @here a b c d post t =>
    intro p2 c2 h2 z
    cases h2 with
    | here _ => exact .inl ⟨rfl, rfl⟩
    | @there _ _ q2 _ h2 => exact key t h2 z
  | @there x p q cy h1 ih =>
    intro p2 c2 h2 z
    cases h2 with
    | @here a b c d post t =>
      rcases key t h1 z with ⟨e1, e2⟩ | ⟨p3, s1, s2⟩
      · exact .inl ⟨e1.symm, e2.symm⟩
      · exact .inr ⟨p3, s2, s1⟩
    | @there _ _ q2 _ h2 =>
      rcases ih h2 z.tail with ⟨e1, e2⟩ | ⟨p3, s1, s2⟩
      · exact .inl ⟨e1, by rw [e2]⟩
      · exact .inr ⟨x :: p3, .there s1, .there s2⟩
inductive Run : List Int → List (Int × Int) → List Int → Prop
  | nil (p : List Int) : Run p [] p
  | cons {p q r : List Int} {c : Int × Int} {cs : List (Int × Int)} : Step p c q → Run q cs r → Run p (c :: cs) r
/-- nothing can be taken out -/
def NF (p : List Int) : Prop := ∀ c q, ¬ Step p c q
theorem Run.snoc {p q r : List Int} {c : Int × Int} {cs : List (Int × Int)} (h : Run p cs q) (s : Step q c r) : Run p (cs ++ [c]) r := by
  induction h with
  | nil p => exact .cons s (.nil _)
  | cons h1 _ ih => exact .cons h1 (ih s)
theorem Run.zz {p q : List Int} {cs : List (Int × Int)} (h : Run p cs q) : ZZ p → ZZ q := by
  induction h with
  | nil p => exact id
  | cons h1 _ ih => exact fun z => ih (ZZ.step h1 z)
theorem Run.len {p q : List Int} {cs : List (Int × Int)} (h : Run p cs q) : p.length = q.length + 2 * cs.length := by
  induction h with
  | nil p => simp
  | cons h1 _ ih => have := h1.len; rw [List.length_cons]; omega
theorem ends : ∀ (n : Nat) (p : List Int), p.length ≤ n → ∃ cs r, Run p cs r ∧ NF r
  | 0, p, h => ⟨[], p, .nil p, fun c q s => by have := s.len; omega⟩
  | n + 1, p, h => by
    by_cases e : ∃ c q, Step p c q
    · obtain ⟨c, q, s⟩ := e
      have := s.len
      obtain ⟨cs, r, h1, h2⟩ := ends n q (by omega)
      exact ⟨c :: cs, r, .cons s h1, h2⟩
    · exact ⟨[], p, .nil p, fun c q s => e ⟨c, q, s⟩⟩
/-- in whatever order points are taken out, the same cycles and the same rest come out -/
theorem unique : ∀ (n : Nat) (p : List Int), p.length ≤ n → ZZ p → ∀ {cs ds : List (Int × Int)} {r s : List Int}, Run p cs r → NF r → Run p ds s → NF s → r = s ∧ cs.Perm ds := by
  intro n
  induction n with
  | zero =>
    intro p hp z cs ds r s h1 n1 h2 n2
    cases h1 with
    | nil _ => cases h2 with
      | nil _ => exact ⟨rfl, .nil⟩
      | cons s2 _ => exact absurd s2 (n1 _ _)
    | cons s1 _ => have := s1.len; omega
  | succ n ih =>
    intro p hp z cs ds r s h1 n1 h2 n2
    cases h1 with
    | nil _ => cases h2 with
      | nil _ => exact ⟨rfl, .nil⟩
      | cons s2 _ => exact absurd s2 (n1 _ _)
    | @cons _ q1 _ c1 cs' s1 r1 =>
      cases h2 with
      | nil _ => exact absurd s1 (n2 _ _)
      | @cons _ q2 _ c2 ds' s2 r2 =>
        have l1 := s1.len
        have l2 := s2.len
        rcases diamond s1 s2 z with ⟨e1, e2⟩ | ⟨p3, t1, t2⟩
        · subst e1 e2
          obtain ⟨e, pm⟩ := ih q1 (by omega) (ZZ.step s1 z) r1 n1 r2 n2
          exact ⟨e, pm.cons _⟩
        · obtain ⟨es, t, r3, n3⟩ := ends p3.length p3 (Nat.le_refl _)
          obtain ⟨e1, m1⟩ := ih q1 (by omega) (ZZ.step s1 z) r1 n1 (.cons t1 r3) n3
          obtain ⟨e2, m2⟩ := ih q2 (by omega) (ZZ.step s2 z) r2 n2 (.cons t2 r3) n3
          refine ⟨e1.trans e2.symm, ?_⟩
          exact ((m1.cons c1).trans (.swap c2 c1 es)).trans (m2.symm.cons c2)
theorem one_count {p : List Int} (z : ZZ p) {cs ds : List (Int × Int)} {r s : List Int} (h1 : Run p cs r) (n1 : NF r) (h2 : Run p ds s) (n2 : NF s) : r = s ∧ cs.Perm ds := unique p.length p (Nat.le_refl _) z h1 n1 h2 n2
/-! ### the stack's way -/
theorem Step.suffix {p q : List Int} {cy : Int × Int} (h : Step p cy q) (l : List Int) : Step (p ++ l) cy (q ++ l) := by
  induction h with
  | here t => exact .here t
  | there _ ih => exact .there ih
theorem Step.prefix {p q : List Int} {cy : Int × Int} (h : Step p cy q) : ∀ l : List Int, Step (l ++ p) cy (l ++ q)
  | [] => h
  | x :: l => .there (h.prefix l)
theorem step_last {p : List Int} {cy : Int × Int} {q : List Int} (h : Step p cy q) : ∀ {m : List Int} {x : Int}, p = m ++ [x] → (∃ q', Step m cy q' ∧ q = q' ++ [x]) ∨ ∃ pre a b c, p = pre ++ [a, b, c, x] ∧ Taken a b c x := by
  induction h with
  | @here a b c d post t =>
    intro m x e
    rcases List.eq_nil_or_concat post with rfl | ⟨post', y, rfl⟩
    · have e2 : [a, b, c] ++ [d] = m ++ [x] := e
      obtain ⟨_, e4⟩ := List.append_inj' e2 rfl
      have e5 : d = x := (List.cons.inj e4).1
      subst e5
      exact .inr ⟨[], a, b, c, rfl, t⟩
    · have e2 : (a :: b :: c :: d :: post') ++ [y] = m ++ [x] := by rw [← e]; simp
      obtain ⟨e3, e4⟩ := List.append_inj' e2 rfl
      have e5 : y = x := (List.cons.inj e4).1
      subst e5 e3
      exact .inl ⟨a :: d :: post', .here t, by simp⟩
  | @there y p q cy h ih =>
    intro m x e
    cases m with
    | nil =>
      have e2 : p = [] := (List.cons.inj e).2
      subst e2
      cases h
    | cons y' m' =>
      obtain ⟨e1, e2⟩ := List.cons.inj e
      subst e1
      rcases ih e2 with ⟨q', s, e3⟩ | ⟨pre, a, b, c, e3, t⟩
      · exact .inl ⟨y :: q', .there s, by rw [e3]; rfl⟩
      · exact .inr ⟨y :: pre, a, b, c, by rw [e3]; rfl, t⟩
theorem nf_push {m : List Int} {x : Int} (h : NF m) (n : ∀ pre a b c, m ++ [x] = pre ++ [a, b, c, x] → ¬ Taken a b c x) : NF (m ++ [x]) := by
  intro cy q s
  rcases step_last s rfl with ⟨q', s', _⟩ | ⟨pre, a, b, c, e, t⟩
  · exact h _ _ s'
  · exact n pre a b c e t
theorem nf_prefix {m l : List Int} (h : NF (m ++ l)) : NF m := fun cy q s => h _ _ (s.suffix l)
/-- turning points go up and down -/
theorem tq_zz : ∀ (l : List Int) (b a : Int), a ≠ b → ∃ x s, tq b a l = x :: s ∧ (x > b ↔ a > b) ∧ x ≠ b ∧ ZZ (b :: x :: s)
  | [], b, a, h => ⟨a, [], rfl, Iff.rfl, h, fun z => h z.symm⟩
  | r :: l, b, a, h => by
    simp only [tq]
    by_cases e : a = r
    · rw [if_pos e]
      exact tq_zz l b a h
    · rw [if_neg e]
      by_cases bt : Btw a b r
      · rw [if_pos bt]
        obtain ⟨x, s, h1, h2, h3, h4⟩ := tq_zz l b r (by omega)
        exact ⟨x, s, h1, by omega, h3, h4⟩
      · rw [if_neg bt]
        obtain ⟨y, s, h1, h2, h3, h4⟩ := tq_zz l a r (fun z => e z.symm)
        refine ⟨a, y :: s, by rw [h1], Iff.rfl, h, ?_, h4⟩
        have h5 : y > a ↔ r > a := h2
        omega
theorem ts_zz : ∀ (l : List Int) (a : Int), ZZ (ts a l)
  | [], _ => trivial
  | r :: l, a => by
    simp only [ts]
    by_cases e : a = r
    · rw [if_pos e]
      exact ts_zz l a
    · rw [if_neg e]
      obtain ⟨x, s, h1, _, _, h4⟩ := tq_zz l a r (fun z => e z.symm)
      rw [h1]
      exact h4
theorem tp_zz (ns : List Int) : ZZ (tp ns) := by
  cases ns with
  | nil => exact trivial
  | cons a l => exact ts_zz l a
end RM

/-! heaps; the texts of data; a walk over two tuples -/
namespace KA
open PySem PySem.Spec PyProof.Rows L2
theorem same_new {H : Hp} {p : Addr} {o : HO} (h : H p = none) : Same H (upd H p o) := fun b x e => by
  rw [upd_ne (ne_of_none e h)]
  exact e
theorem same_again {H0 H : Hp} {p : Addr} {o : HO} (h : H0 p = none) (s : Same H0 H) : Same H0 (upd H p o) := fun b x e => by
  rw [upd_ne (ne_of_none e h)]
  exact s b x e
theorem SqT_same {K : PySem.W.Frag} {H H' : Hp} {a : Addr} {xs : List V} (e : Same H H') (h : SqT K H a xs) : SqT K H' a xs := by
  rcases h with (h | ⟨o, h⟩) | h
  · exact .inl (.inl (e _ _ h))
  · exact .inl (.inr ⟨o, e _ _ h⟩)
  · exact .inr h
theorem int_at {ns : List Int} {i : Nat} {x : V} (h : (ns.map V.int)[i]? = some x) : ∃ r, ns[i]? = some r ∧ x = .int r := by
  rw [List.getElem?_map] at h
  cases e : ns[i]? with
  | none => rw [e] at h; cases h
  | some r => rw [e] at h; exact ⟨r, rfl, (Option.some.inj h).symm⟩
theorem small3000 {n : Nat} (h : n ≤ 3000) : n < sizeLine := Nat.lt_of_le_of_lt h (by decide)
theorem at_int {ns : List Int} {i : Nat} {r : Int} (h : ns[i]? = some r) : (ns.map V.int)[i]? = some (.int r) := by
  rw [List.getElem?_map, h]
  rfl
end KA
namespace KB
end KB
namespace PH
open PySem PySem.Spec PyProof.Rows L2 KA
/-- a list or a tuple of xs stands at a -/
def Sq (K : PySem.W.Frag) (H : Hp) (a : Addr) (xs : List V) : Prop := SqL K H a xs ∨ SqT K H a xs
theorem Sq.same {K : PySem.W.Frag} {H H' : Hp} {a : Addr} {xs : List V} (h : Sq K H a xs) (e : Same H H') : Sq K H' a xs := h.elim (fun z => .inl (e.seq z)) (fun z => .inr (SqT_same e z))
/-- pairs of ints stand at the refs of xs -/
def PairsAt (H : Hp) : List V → List (Int × Int) → Prop
  | [], [] => True
  | x :: xs, r :: rs => (∃ p, x = .ref p ∧ H p = some (.tup [.int r.1, .int r.2])) ∧ PairsAt H xs rs
  | _, _ => False
theorem PairsAt.same {H H' : Hp} (e : Same H H') : ∀ {xs : List V} {rs : List (Int × Int)}, PairsAt H xs rs → PairsAt H' xs rs
  | [], [], _ => trivial
  | x :: xs, r :: rs, ⟨⟨p, h1, h2⟩, h3⟩ => ⟨⟨p, h1, e _ _ h2⟩, PairsAt.same e h3⟩
  | [], _ :: _, h => h.elim
  | _ :: _, [], h => h.elim
theorem PairsAt.length {H : Hp} : ∀ {xs : List V} {rs : List (Int × Int)}, PairsAt H xs rs → xs.length = rs.length
  | [], [], _ => rfl
  | x :: xs, r :: rs, ⟨_, h3⟩ => by rw [List.length_cons, List.length_cons, PairsAt.length h3]
  | [], _ :: _, h => h.elim
  | _ :: _, [], h => h.elim
theorem PairsAt.append {H : Hp} : ∀ {xs ys : List V} {rs ss : List (Int × Int)}, PairsAt H xs rs → PairsAt H ys ss → PairsAt H (xs ++ ys) (rs ++ ss)
  | [], _, [], _, _, h => h
  | x :: xs, _, r :: rs, _, ⟨h1, h2⟩, h => ⟨h1, PairsAt.append h2 h⟩
  | [], _, _ :: _, _, h, _ => h.elim
  | _ :: _, _, [], _, h, _ => h.elim
theorem PairsAt.take {H : Hp} : ∀ {xs : List V} {rs : List (Int × Int)} (n : Nat), PairsAt H xs rs → PairsAt H (xs.take n) (rs.take n)
  | [], [], n, _ => by simp [PairsAt]
  | x :: xs, r :: rs, 0, _ => trivial
  | x :: xs, r :: rs, n + 1, ⟨h1, h2⟩ => ⟨h1, PairsAt.take n h2⟩
  | [], _ :: _, _, h => h.elim
  | _ :: _, [], _, h => h.elim
theorem PairsAt.get {H : Hp} : ∀ {xs : List V} {rs : List (Int × Int)} {i : Nat} {x : V}, PairsAt H xs rs → xs[i]? = some x → ∃ p a b, x = .ref p ∧ H p = some (.tup [.int a, .int b])
  | x :: xs, r :: rs, 0, y, ⟨⟨p, h1, h2⟩, _⟩, e => ⟨p, r.1, r.2, by rw [← h1]; exact (Option.some.inj e).symm, h2⟩
  | x :: xs, r :: rs, i + 1, y, ⟨_, h⟩, e => PairsAt.get h e
  | [], [], i, y, _, e => by simp at e
  | [], _ :: _, _, _, h, _ => h.elim
  | _ :: _, [], _, _, h, _ => h.elim
/-! ### data -/
def dInts (ns : List Int) : List PyData := ns.map PyData.int
def dPairs (rs : List (Int × Int)) : List PyData := rs.map fun r => .tuple [.int r.1, .int r.2]
theorem dp_ints {K : PySem.W.Frag} {H : Hp} : ∀ ns : List Int, DpAll K H (ns.map V.int) (dInts ns)
  | [] => .nil
  | n :: ns => .cons (.int n) (dp_ints ns)
theorem dp_pairs {K : PySem.W.Frag} {H : Hp} : ∀ {xs : List V} {rs : List (Int × Int)}, PairsAt H xs rs → DpAll K H xs (dPairs rs)
  | [], [], _ => .nil
  | x :: xs, r :: rs, ⟨⟨p, h1, h2⟩, h3⟩ => by
    subst h1
    exact .cons (.tup (SqT.of h2) (.cons (.int _) (.cons (.int _) .nil))) (dp_pairs h3)
  | [], _ :: _, h => h.elim
  | _ :: _, [], h => h.elim
theorem lay_ints : ∀ ns : List Int, PyData.canLayAll0 (dInts ns) = true
  | [] => rfl
  | n :: ns => by
    show (PyData.canLay0 (.int n) && PyData.canLayAll0 (dInts ns)) = true
    rw [lay_ints ns]
    simp only [PyData.canLay0, Bool.and_true]
theorem lay_pairs : ∀ rs : List (Int × Int), PyData.canLayAll0 (dPairs rs) = true
  | [] => rfl
  | r :: rs => by
    show (PyData.canLay0 (.tuple [.int r.1, .int r.2]) && PyData.canLayAll0 (dPairs rs)) = true
    rw [lay_pairs rs]
    simp only [PyData.canLay0, PyData.canLayAll0, Bool.and_true]
theorem depth_pairs : ∀ rs : List (Int × Int), PyData.depthAll (dPairs rs) ≤ 3
  | [] => Nat.zero_le _
  | r :: rs => by
    have h := depth_pairs rs
    show max (PyData.depth (.tuple [.int r.1, .int r.2])) (PyData.depthAll (dPairs rs)) ≤ 3
    simp only [PyData.depth, PyData.depthAll]
    omega
theorem shaped_of {d : PyData} (h1 : d.canLay0 = true) (h2 : d.depth ≤ 64) : SeqAt.shaped d = true := by
  unfold SeqAt.shaped
  rw [h1, decide_eq_true h2]
  rfl
theorem shaped_lst (ns : List Int) : SeqAt.shaped (.list (dInts ns)) = true :=
  shaped_of (by simp only [PyData.canLay0, lay_ints]) (by have := KG.depth_all ns; show PyData.depth (.list (ns.map PyData.int)) ≤ 64; simp only [PyData.depth]; omega)
theorem shaped_tup (ns : List Int) : SeqAt.shaped (.tuple (dInts ns)) = true :=
  shaped_of (by simp only [PyData.canLay0, lay_ints]) (by have := KG.depth_all ns; show PyData.depth (.tuple (ns.map PyData.int)) ≤ 64; simp only [PyData.depth]; omega)
theorem shaped_prs (rs : List (Int × Int)) : SeqAt.shaped (.list (dPairs rs)) = true :=
  shaped_of (by simp only [PyData.canLay0, lay_pairs]) (by have := depth_pairs rs; simp only [PyData.depth]; omega)
theorem eqv_same {d : PyData} (h : SeqAt.shaped d = true) : PyData.eqv d d = true := by
  refine SeqAt.eqv_refl d ?_
  unfold SeqAt.shaped at h
  rw [Bool.and_eq_true] at h
  exact h.1
/-- what repr asks of data -/
structure Nice (d : PyData) : Prop where
  show' : d.showable = true
  dict : d.hasDict = false
  depth : d.depth ≤ 10
  fits : d.shown.length ≤ sizeLine
theorem nice_lst {ns : List Int} (h : ∀ n ∈ ns, n.natAbs < 2 ^ 39) (hl : ns.length ≤ 2000) : Nice (.list (dInts ns)) :=
  ⟨by simp only [PyData.showable]; exact KG.show_all ns fun m hm => Nat.lt_trans (h m hm) (by decide), by simp only [PyData.hasDict]; exact KG.nodict_all ns,
    by have := KG.depth_all ns; show PyData.depth (.list (ns.map PyData.int)) ≤ 10; simp only [PyData.depth]; omega, KG.repr_fits h hl⟩
theorem nice_tup {ns : List Int} (h : ∀ n ∈ ns, n.natAbs < 2 ^ 39) (hl : ns.length ≤ 2000) : Nice (.tuple (dInts ns)) :=
  ⟨by simp only [PyData.showable]; exact KG.show_all ns fun m hm => Nat.lt_trans (h m hm) (by decide), by simp only [PyData.hasDict]; exact KG.nodict_all ns,
    by have := KG.depth_all ns; show PyData.depth (.tuple (ns.map PyData.int)) ≤ 10; simp only [PyData.depth]; omega, by
      refine PyData.shown_fits (B := 13) (by decide) (by decide) ?_ ?_
      · simp only [PyData.leavesShort]
        exact KG.leaves_all ns fun n hn => Nat.lt_trans (h n hn) (by decide)
      · have := KG.weight_all ns h
        show PyData.weight (.tuple (ns.map PyData.int)) ≤ _
        simp only [PyData.weight]
        omega⟩
theorem leaf_int {a : Int} (h : a.natAbs < 2 ^ 39) : PyData.leavesShort 13 (.int a) = true := by
  have := KG.leaves_all [a] fun n hn => by rw [List.mem_singleton.mp hn]; exact Nat.lt_trans h (by decide)
  simpa only [List.map_cons, List.map_nil, PyData.leavesShortAll, Bool.and_true] using this
theorem show_int {a : Int} (h : a.natAbs < 2 ^ 39) : PyData.showable (.int a) = true := by
  have := KG.show_all [a] fun n hn => by rw [List.mem_singleton.mp hn]; exact Nat.lt_trans h (by decide)
  simpa only [List.map_cons, List.map_nil, PyData.showableAll, Bool.and_true] using this
theorem weight_int {a : Int} (h : a.natAbs < 2 ^ 39) : PyData.weight (.int a) + 1 ≤ 60 := by
  have := KG.weight_all [a] fun n hn => by rw [List.mem_singleton.mp hn]; exact h
  simp only [List.map_cons, List.map_nil, PyData.weightAll, List.length_singleton] at this
  omega
theorem pairs_show : ∀ rs : List (Int × Int), (∀ r ∈ rs, r.1.natAbs < 2 ^ 39 ∧ r.2.natAbs < 2 ^ 39) → PyData.showableAll (dPairs rs) = true
  | [], _ => rfl
  | r :: rs, h => by
    have h1 := h r List.mem_cons_self
    show (PyData.showable (.tuple [.int r.1, .int r.2]) && PyData.showableAll (dPairs rs)) = true
    rw [pairs_show rs fun x hx => h x (List.mem_cons_of_mem _ hx)]
    have e1 := show_int h1.1
    have e2 := show_int h1.2
    simp only [PyData.showable, PyData.showableAll] at e1 e2 ⊢
    rw [e1, e2]
    rfl
theorem pairs_dict : ∀ rs : List (Int × Int), PyData.hasDictAll (dPairs rs) = false
  | [] => rfl
  | r :: rs => by
    show (PyData.hasDict (.tuple [.int r.1, .int r.2]) || PyData.hasDictAll (dPairs rs)) = false
    rw [pairs_dict rs]
    simp only [PyData.hasDict, PyData.hasDictAll, Bool.or_self]
theorem pairs_leaves : ∀ rs : List (Int × Int), (∀ r ∈ rs, r.1.natAbs < 2 ^ 39 ∧ r.2.natAbs < 2 ^ 39) → PyData.leavesShortAll 13 (dPairs rs) = true
  | [], _ => rfl
  | r :: rs, h => by
    have h1 := h r List.mem_cons_self
    show (PyData.leavesShort 13 (.tuple [.int r.1, .int r.2]) && PyData.leavesShortAll 13 (dPairs rs)) = true
    rw [pairs_leaves rs fun x hx => h x (List.mem_cons_of_mem _ hx)]
    have e : PyData.leavesShort 13 (.tuple [.int r.1, .int r.2]) = PyData.leavesShortAll 13 [.int r.1, .int r.2] := by simp only [PyData.leavesShort]
    have e' : PyData.leavesShortAll 13 [.int r.1, .int r.2] = (PyData.leavesShort 13 (.int r.1) && (PyData.leavesShort 13 (.int r.2) && true)) := by simp only [PyData.leavesShortAll]
    rw [e, e', leaf_int h1.1, leaf_int h1.2]
    rfl
theorem pairs_weight : ∀ rs : List (Int × Int), (∀ r ∈ rs, r.1.natAbs < 2 ^ 39 ∧ r.2.natAbs < 2 ^ 39) → PyData.weightAll (dPairs rs) ≤ 130 * rs.length
  | [], _ => Nat.le_refl _
  | r :: rs, h => by
    have h1 := h r List.mem_cons_self
    have h2 := pairs_weight rs fun x hx => h x (List.mem_cons_of_mem _ hx)
    have w1 := weight_int h1.1
    have w2 := weight_int h1.2
    have e : PyData.weightAll (dPairs (r :: rs)) = PyData.weight (.tuple [.int r.1, .int r.2]) + 1 + PyData.weightAll (dPairs rs) := by
      show PyData.weightAll (_ :: _) = _
      simp only [PyData.weightAll]
      rfl
    have e2 : PyData.weight (.tuple [.int r.1, .int r.2]) = PyData.weight (.int r.1) + 1 + (PyData.weight (.int r.2) + 1 + 0) := by simp only [PyData.weight, PyData.weightAll]
    rw [e, e2, List.length_cons]
    omega
theorem nice_prs {rs : List (Int × Int)} (h : ∀ r ∈ rs, r.1.natAbs < 2 ^ 39 ∧ r.2.natAbs < 2 ^ 39) (hl : rs.length ≤ 2000) : Nice (.list (dPairs rs)) :=
  ⟨by simp only [PyData.showable]; exact pairs_show rs h, by simp only [PyData.hasDict]; exact pairs_dict rs, by have := depth_pairs rs; simp only [PyData.depth]; omega, by
    refine PyData.shown_fits (B := 13) (by decide) (by decide) ?_ ?_
    · simp only [PyData.leavesShort]
      exact pairs_leaves rs h
    · have := pairs_weight rs h
      simp only [PyData.weight]
      omega⟩
section
variable {X : Cx}
/-- repr of data at an address, while no repr is under way -/
def rReprD (K : PySem.W.Frag) : List V → Hp → VK → Prop := fun vs H Q => ∃ (a : Addr) (d : PyData), vs = [V.ref a] ∧ Dp K H (.ref a) d ∧ Nice d ∧ Q (.str d.shown) H
theorem cr_reprD (hg : X.A.guards = some []) (hu : X.A.units + 100 < cLine) : CallR X (.builtin "repr") (rReprD X.K) := by
  intro pins s σ H vs us Q I r h
  obtain ⟨a, d, rfl, hd, nc, q⟩ := h
  rw [Vals.ref1 r]
  obtain ⟨as, rd⟩ := Dp.reads I d (.ref a) (.ref a) hd rfl
  refine repr_of_reads' rd nc.show' (PyData.noDict_hsm nc.dict) hg (by have := nc.depth; omega) (fun _ _ e => e) (fun g u tk k => ?_) nc.fits
  exact ⟨.str d.shown, H, I.kept k, ⟨u, rfl⟩, q⟩
theorem cr_reprB : CallR X (.builtin "repr") (fun vs H Q => ∃ b : Bool, vs = [V.bl b] ∧ Q (.str (if b = true then "True" else "False")) H) := by
  intro pins s σ H vs us Q I r h
  obtain ⟨b, rfl, q⟩ := h
  obtain ⟨u, rfl, ru⟩ := vals1 r
  cases ru
  exact PySem.P.repr_of_bool ⟨.str _, H, I.tok _, ⟨_, rfl⟩, q⟩
end
section
variable {K : PySem.W.Frag} {a b : Addr} {xs ys : List V}
theorem walk_tups {n : Nat} (hn : n = min xs.length ys.length) : Walk (RZ.ItzT K a b) n (fun H => SqT K H a xs ∧ SqT K H b ys) (YPair (fun i => xs[i]?) (fun i => ys[i]?)) := by
  refine ⟨fun i H hi q => ⟨xs, ys, xs[i]'(by omega), ys[i]'(by omega), q.1, q.2, List.getElem?_eq_getElem (by omega), List.getElem?_eq_getElem (by omega)⟩, fun H q => ⟨xs, ys, q.1, q.2, by omega⟩, fun i H v H' _ q y => ?_⟩
  obtain ⟨T, x, z, h1, h2, h3, h4, h5⟩ := y
  exact ⟨T, x, z, h1, h2, h3, h4 xs q.1, h5 ys q.2⟩
end
/-- two promises of one def -/
theorem both {P : Program} {w : World} {K : PySem.W.Frag} {mg : Str → Option Value} {base : Heap} {CX : CXT} {k : Nat} {f : Addr} {fd : FuncData} {ps : List Str} {sp sp' : Sp}
    (F : FnOk P w K mg base CX k f fd ps sp) (G : FnOk P w K mg base CX k f fd ps sp') : FnOk P w K mg base CX k f fd ps (fun vs H Q E => sp vs H Q E ∨ sp' vs H Q E) :=
  ⟨fun vs H Q E h => h.elim (F.len vs H Q E) (G.len vs H Q E), fun A outer s H args us vs Q E hr e0 hb r h => h.elim (F.run A outer s H args us vs Q E hr e0 hb r) (G.run A outer s H args us vs Q E hr e0 hb r)⟩
end PH

namespace KA
open PySem PySem.Spec PyProof.Rows L2
def topS (i : Nat) : Stmt := PySem.Challenge.pw_wearswings_k80_wear_of_orders.main.body.getD i (.Pass ⟨0, 0, 0, 0⟩)
end KA
namespace KD
open PySem PySem.Spec PyProof.Rows L2 KA
abbrev sFeed : Stmt := topS 24
abbrev sTake : Stmt := topS 25
abbrev sPick : Stmt := topS 26
theorem scFeed : FnScope ["script", "k", "cell", "digits", "state"] ["script", "k"] (defScope sFeed) := ⟨rfl, rfl, rfl, by decide +kernel, rfl, by decide +kernel, by decide +kernel⟩
theorem scTake : FnScope ["feed", "many", "digit"] ["feed", "many"] (defScope sTake) := ⟨rfl, rfl, rfl, by decide +kernel, rfl, by decide +kernel, by decide +kernel⟩
theorem scPick : FnScope ["feed", "some"] ["feed", "some"] (defScope sPick) := ⟨rfl, rfl, rfl, by decide +kernel, rfl, by decide +kernel, by decide +kernel⟩
/-- a feed stands at p -/
def FeedAt (H : Hp) (p : Addr) : Prop := ∃ d st : Int, 0 ≤ d ∧ 0 ≤ st ∧ st < 2305843009213693951 ∧ H p = some (.lst [.int d, .int st])
/-- all that was tracked is as it was, but what stands at f -/
def Ch (f : Addr) (H H' : Hp) : Prop := ∀ b o, b ≠ f → H b = some o → H' b = some o
theorem Ch.refl (f : Addr) (H : Hp) : Ch f H H := fun _ _ _ e => e
theorem Ch.trans {f : Addr} {H H1 H2 : Hp} (a : Ch f H H1) (b : Ch f H1 H2) : Ch f H H2 := fun c o n e => b c o n (a c o n e)
theorem Ch.of_same {f : Addr} {H H' : Hp} (s : Same H H') : Ch f H H' := fun c o _ e => s c o e
theorem Ch.put {f : Addr} {H : Hp} {o : HO} : Ch f H (upd H f o) := fun b x n e => by rw [upd_ne n]; exact e
theorem Ch.new {f p : Addr} {H : Hp} {o : HO} (h : H p = none) : Ch f H (upd H p o) := .of_same (same_new h)
theorem Ch.again {f p : Addr} {H0 H : Hp} {o : HO} (h : H0 p = none) (c : Ch f H0 H) : Ch f H0 (upd H p o) := fun b x n e => by
  rw [upd_ne (ne_of_none e h)]
  exact c b x n e
theorem Ch.free {f p : Addr} {H H' : Hp} (c : Ch f H H') (n : p ≠ f) (h : H' p = none) : H p = none := by
  cases e : H p with
  | none => rfl
  | some o =>
    rw [c p o n e] at h
    cases h
theorem Ch.seq {K : PySem.W.Frag} {f : Addr} {H H' : Hp} {a : Addr} {xs : List V} (c : Ch f H H') (n : a ≠ f) (h : SqL K H a xs) : SqL K H' a xs := by
  rcases h with (h | ⟨o, h⟩) | h
  · exact .inl (.inl (c _ _ n h))
  · exact .inl (.inr ⟨o, c _ _ n h⟩)
  · exact .inr h
/-- what stood ahead of the feed is as it was -/
theorem Ch.old {f : Addr} {H0 H H' : Hp} (c : Ch f H H') (hf : H0 f = none) (s : Same H0 H) : Same H0 H' := fun b o e => c b o (ne_of_none e hf) (s b o e)
theorem FeedAt.ne {H : Hp} {f p : Addr} (h : FeedAt H f) (n : H p = none) : p ≠ f := by
  obtain ⟨d, st, _, _, _, e⟩ := h
  exact fun z => by rw [z, e] at n; cases n
theorem FeedAt.upd {H : Hp} {f p : Addr} {o : HO} (h : FeedAt H f) (n : p ≠ f) : FeedAt (upd H p o) f := by
  obtain ⟨d, st, h1, h2, h3, e⟩ := h
  exact ⟨d, st, h1, h2, h3, by rw [upd_ne n.symm]; exact e⟩
theorem FeedAt.same {H H' : Hp} {f : Addr} (h : FeedAt H f) (s : Same H H') : FeedAt H' f := by
  obtain ⟨d, st, h1, h2, h3, e⟩ := h
  exact ⟨d, st, h1, h2, h3, s _ _ e⟩
section
variable {P : Program} {w : World} {K : PySem.W.Frag} {mg : Str → Option Value} {base : Heap}
def spFeed (K : PySem.W.Frag) : Sp := fun vs H Q _ => ∃ (a : Addr) (ns : List Int) (k : Int), vs = [.ref a, .int k] ∧ SqL K H a (ns.map V.int) ∧ 0 ≤ k ∧ k ≤ 100 ∧
  ∀ H' p, Same H H' → H p = none → FeedAt H' p → Q (.ref p) H'
theorem ok_feed {f : Addr} {fd : FuncData} {k : Nat} (F : Fun K "_law_feed" "_law_feed" sFeed f fd) (ml : mg "len" = none) (mm : mg "max" = none) (ma : mg "abs" = none) : FnOk P w K mg base CX0 (k + 1) f fd ["script", "k"] (spFeed K) := by
  refine F.ok scFeed (fun vs H Q E h => ?_) (fun cdv A outer s H vs Q E hr h => ?_)
  · obtain ⟨a, ns, z, rfl, _⟩ := h
    rfl
  · obtain ⟨a, ns, z, rfl, hS, h0, h1, q⟩ := h
    refine ⟨_, pss_cons (ps_set (i := 2) scFeed.nd rfl (.inl rfl) (pe_ifExp (pt_cmpR op_lt (pv 1) (pe_callB call_len_seq (by rfl) ml PySem.boot_len (pa_cons (pv 0) pa_nil)) (nomark _)) (pe_ix ix_list (pv 0) (pv 1) (fun _ _ => rfl)) (pe_op op_add (pe_op op_mul pe_int (pv 1)) pe_int)))
      (pss_cons (ps_set (i := 3) scFeed.nd rfl (.inl rfl) (pe_callB (call_max2 rfl) (by rfl) mm (by decide +kernel) (pa_cons pe_int (pa_cons (pe_op op_sub (pe_callB call_abs (by rfl) ma (by decide +kernel) (pa_cons (pv 2) pa_nil)) (pe_op op_pow pe_int pe_int)) pa_nil))))
      (pss_cons (ps_set (i := 4) scFeed.nd rfl (.inl rfl) (pe_op op_mod (pe_op op_add (pe_op op_add (pe_op op_mul (pv 2) pe_int) (pe_op op_mul pe_int (pv 1))) pe_int) pe_int))
      (pss_one (ps_ret (pe_lst (pa_cons (pv 3) (pa_cons (pv 4) pa_nil))))))), ?_⟩
    refine ⟨.int z, rfl, .ref a, rfl, a, ns.map V.int, rfl, .inl hS, z, _, rfl, rfl, _, rfl, ite2 (fun e => ?_) (fun e => ?_)⟩
    · have hz : z < ((ns.map V.int).length : Nat) := of_decide_eq_true e
      rw [List.length_map] at hz
      obtain ⟨j, rfl⟩ : ∃ j : Nat, z = (j : Int) := ⟨z.toNat, by omega⟩
      have hj : j < ns.length := by omega
      have gj : (ns.map V.int)[j]? = some (.int ns[j]) := by rw [List.getElem?_map, List.getElem?_eq_getElem hj]; rfl
      refine ⟨.ref a, rfl, .int j, rfl, a, _, _, _, rfl, rfl, hS, atI_nat gj, ?_⟩
      refine ⟨_, rfl, _, rfl, 10, 18, rfl, rfl, ⟨by decide, by decide, by decide⟩, _, _, rfl, rfl, 0, _, rfl, ?_⟩
      refine ⟨_, rfl, _, _, rfl, rfl, .inr ⟨by decide, by decide⟩, .int _, rfl, 7919, _, rfl, rfl, .inl ⟨by decide, by decide⟩, _, _, rfl, rfl, _, _, rfl, rfl, _, _, rfl, rfl, by show (0 : Int) < 2305843009213693951; decide, ?_⟩
      refine ⟨_, rfl, _, rfl, by show 2 ≤ sizeLine; decide, fun p np => q _ p (same_new np) np ⟨_, _, ?_, Int.emod_nonneg _ (by decide), Int.emod_lt_of_pos _ (by decide), upd_same⟩⟩
      split <;> omega
    · refine ⟨.int z, rfl, 83, z, rfl, rfl, .inl ⟨by decide, by decide⟩, _, _, rfl, rfl, ?_⟩
      refine ⟨_, rfl, _, rfl, 10, 18, rfl, rfl, ⟨by decide, by decide, by decide⟩, _, _, rfl, rfl, 0, _, rfl, ?_⟩
      refine ⟨_, rfl, _, _, rfl, rfl, .inr ⟨by decide, by decide⟩, .int _, rfl, 7919, _, rfl, rfl, .inl ⟨by decide, by decide⟩, _, _, rfl, rfl, _, _, rfl, rfl, _, _, rfl, rfl, by show (0 : Int) < 2305843009213693951; decide, ?_⟩
      refine ⟨_, rfl, _, rfl, by show 2 ≤ sizeLine; decide, fun p np => q _ p (same_new np) np ⟨_, _, ?_, Int.emod_nonneg _ (by decide), Int.emod_lt_of_pos _ (by decide), upd_same⟩⟩
      split <;> omega
def spTake : Sp := fun vs H Q _ => ∃ (f : Addr) (m : Int), vs = [.ref f, .int m] ∧ 0 < m ∧ m < 2 ^ 64 ∧ FeedAt H f ∧ ∀ H' r, Ch f H H' → FeedAt H' f → 0 ≤ r → r < m → Q (.int r) H'
theorem ok_take {f : Addr} {fd : FuncData} {k : Nat} (F : Fun K "_law_take" "_law_take" sTake f fd) : FnOk P w K mg base CX0 (k + 1) f fd ["feed", "many"] spTake := by
  refine F.ok scTake (fun vs H Q E h => ?_) (fun cdv A outer s H vs Q E hr h => ?_)
  · obtain ⟨a, m, rfl, _⟩ := h
    rfl
  · obtain ⟨f, m, rfl, m0, m1, ⟨d, st, d0, t0, t1, hf⟩, q⟩ := h
    refine ⟨_, pss_cons (ps_if (pt_cmpR op_gt (pe_ix ix_list (pv 0) pe_int (fun _ _ => rfl)) pe_int (nomark _))
        (pss_cons (ps_set (i := 2) scTake.nd rfl (.inl rfl) (pe_op op_mod (pe_ix ix_list (pv 0) pe_int (fun _ _ => rfl)) (pv 1)))
          (pss_cons (ps_asg (pe_op op_fdivW (pe_ix ix_list (pv 0) pe_int (fun _ _ => rfl)) (pv 1)) (pg_sub (pv 0) pe_int set_list)) (pss_one (ps_ret (pv 2))))) pss_nil)
      (pss_cons (ps_asg (pe_op op_mod (pe_op op_add (pe_op op_mul (pe_ix ix_list (pv 0) pe_int (fun _ _ => rfl)) pe_int) pe_int) pe_int) (pg_sub (pv 0) pe_int set_list))
      (pss_one (ps_ret (pe_op op_mod (pe_op op_fdiv (pe_ix ix_list (pv 0) pe_int (fun _ _ => rfl)) pe_int) (pv 1))))), ?_⟩
    have a0 : atI [V.int d, V.int st] 0 = some (.int d) := rfl
    have a1 : atI [V.int d, V.int st] 1 = some (.int st) := rfl
    refine ⟨.ref f, rfl, f, _, 0, .int d, rfl, rfl, SqL.of hf, a0, d, 0, rfl, rfl, _, rfl, ite2 (fun e => ?_) (fun e => ?_)⟩
    · have hd : d > 0 := of_decide_eq_true e
      refine ⟨.ref f, rfl, f, _, 0, .int d, rfl, rfl, SqL.of hf, a0, .int m, rfl, d, m, rfl, rfl, m0, ?_⟩
      refine ⟨.ref f, rfl, f, _, 0, .int d, rfl, rfl, SqL.of hf, a0, .int m, rfl, d, m, rfl, rfl, wide_div (b := 64) m0 (by omega) (by decide) (by decide), ?_⟩
      refine ⟨.ref f, rfl, f, _, 0, 0, rfl, rfl, hf, rfl, .int (d % m), rfl, ?_⟩
      refine q _ _ Ch.put ⟨d / m, st, Int.ediv_nonneg d0 (by omega), t0, t1, upd_same⟩ (Int.emod_nonneg _ (by omega)) (Int.emod_lt_of_pos _ m0)
    · refine ⟨.ref f, rfl, f, _, 1, .int st, rfl, rfl, SqL.of hf, a1, st, 6364136223846793005, rfl, rfl, .inr ⟨by decide, by decide⟩, _, _, rfl, rfl, _, _, rfl, rfl, by show (0 : Int) < 2305843009213693951; decide, ?_⟩
      refine ⟨.ref f, rfl, f, _, 1, 1, rfl, rfl, hf, rfl, ?_⟩
      refine ⟨.ref f, rfl, f, _, 1, _, rfl, rfl, SqL.of upd_same, rfl, _, 65536, rfl, rfl, ⟨by decide, by decide⟩, .int m, rfl, _, m, rfl, rfl, m0, ?_⟩
      exact q _ _ Ch.put ⟨d, _, d0, Int.emod_nonneg _ (by decide), Int.emod_lt_of_pos _ (by decide), upd_same⟩ (Int.emod_nonneg _ (by omega)) (Int.emod_lt_of_pos _ m0)
def spPick (K : PySem.W.Frag) : Sp := fun vs H Q _ => ∃ (f c : Addr) (xs : List V), vs = [.ref f, .ref c] ∧ c ≠ f ∧ SqL K H c xs ∧ 0 < xs.length ∧ xs.length ≤ 1000 ∧ FeedAt H f ∧
  ∀ H' (j : Nat) v, xs[j]? = some v → Ch f H H' → FeedAt H' f → Q v H'
theorem ok_pick {f fT : Addr} {fd fdT : FuncData} {k : Nat} (F : Fun K "_law_pick" "_law_pick" sPick f fd) (FT : Fun K "_law_take" "_law_take" sTake fT fdT) (gT : mg "_law_take" = some (.ref fT)) (bT : Binds K fdT ["feed", "many"] []) (ml : mg "len" = none) :
    FnOk P w K mg base CX0 (k + 2) f fd ["feed", "some"] (spPick K) := by
  have GT : FnOk P w K mg base CX0 (k + 1) fT fdT ["feed", "many"] spTake := ok_take FT
  refine F.ok scPick (fun vs H Q E h => ?_) (fun cdv A outer s H vs Q E hr h => ?_)
  · obtain ⟨a, m, xs, rfl, _⟩ := h
    rfl
  · obtain ⟨f, c, xs, rfl, ncf, hS, l0, l1, hf, q⟩ := h
    refine ⟨_, pss_one (ps_ret (pe_ix ix_list (pv 1) (pe_call GT hr (by rfl) gT FT.kp bT .nil pass0 (pa_cons (pv 0) (pa_cons (pe_callB call_len_seq (by rfl) ml PySem.boot_len (pa_cons (pv 1) pa_nil)) pa_nil))) (fun _ _ => rfl))), ?_⟩
    refine ⟨.ref c, rfl, .ref f, rfl, .ref c, rfl, c, xs, rfl, .inl hS, f, _, rfl, by omega, by omega, hf, fun H' r ch fe r0 r1 => ?_⟩
    obtain ⟨j, rfl⟩ : ∃ j : Nat, r = (j : Int) := ⟨r.toNat, by omega⟩
    have hj : j < xs.length := by omega
    exact ⟨c, xs, _, xs[j], rfl, rfl, ch.seq ncf hS, atI_nat (List.getElem?_eq_getElem hj), q H' j _ (List.getElem?_eq_getElem hj) ch fe⟩
end
end KD
namespace KL
open PySem PySem.Spec PyProof.Rows L2 KA KD
abbrev sLoad : Stmt := topS 27
theorem scLoad : FnScope ["feed", "most", "size", "way", "few", "turn", "middle", "step", "found"] ["feed", "most"] (defScope sLoad) := ⟨rfl, rfl, rfl, by decide +kernel, rfl, by decide +kernel, by decide +kernel⟩
theorem small100 {n : Nat} (h : n ≤ 100) : n < sizeLine := Nat.lt_of_le_of_lt h (by decide)
/-- a list of i small ints stands at D, the rest is as it was -/
def Grown (f D : Addr) (H0 : Hp) (i : Nat) (H : Hp) : Prop := Ch f H0 H ∧ FeedAt H f ∧ ∃ ns : List Int, ns.length = i ∧ (∀ n ∈ ns, n.natAbs < 2 ^ 32) ∧ H D = some (.lst (ns.map V.int))
theorem Grown.start {f D : Addr} {H0 H : Hp} (c : Ch f H0 H) (fe : FeedAt H f) (n0 : H0 D = none) (nf : D ≠ f) : Grown f D H0 0 (upd H D (.lst [])) :=
  ⟨Ch.again n0 c, fe.upd nf, [], rfl, fun _ z => (List.not_mem_nil z).elim, upd_same⟩
theorem Grown.turn {f D : Addr} {H0 H : Hp} {i : Nat} (g : Grown f D H0 i H) (n0 : H0 D = none) (nf : D ≠ f) (hi : i ≤ 100) {H1 : Hp} (c : Ch f H H1) (fe : FeedAt H1 f) {r : Int} (hr : r.natAbs < 2 ^ 32) :
    ∃ acc, H1 D = some (.lst acc) ∧ acc.length < sizeLine ∧ Grown f D H0 (i + 1) (upd H1 D (.lst (acc ++ [.int r]))) := by
  obtain ⟨c0, _, ns, hl, hb, e⟩ := g
  refine ⟨ns.map V.int, c _ _ nf e, by rw [List.length_map]; exact small100 (by omega), Ch.again n0 (c0.trans c), fe.upd nf, ns ++ [r], by rw [List.length_append, List.length_singleton, hl], fun n hn => ?_, ?_⟩
  · rcases List.mem_append.mp hn with z | z
    · exact hb n z
    · rw [List.mem_singleton.mp z]; exact hr
  · rw [upd_same, List.map_append]
    rfl
theorem four {a b c d : Int} {j : Nat} {v : V} (h : [V.int a, V.int b, V.int c, V.int d][j]? = some v) : v = .int a ∨ v = .int b ∨ v = .int c ∨ v = .int d := by
  match j, h with
  | 0, h => exact .inl (Option.some.inj h).symm
  | 1, h => exact .inr (.inl (Option.some.inj h).symm)
  | 2, h => exact .inr (.inr (.inl (Option.some.inj h).symm))
  | 3, h => exact .inr (.inr (.inr (Option.some.inj h).symm))
  | n + 4, h => simp at h
theorem three {a b c : Int} {j : Nat} {v : V} (h : [V.int a, V.int b, V.int c][j]? = some v) : v = .int a ∨ v = .int b ∨ v = .int c := by
  match j, h with
  | 0, h => exact .inl (Option.some.inj h).symm
  | 1, h => exact .inr (.inl (Option.some.inj h).symm)
  | 2, h => exact .inr (.inr (Option.some.inj h).symm)
  | n + 3, h => simp at h
section
variable {P : Program} {w : World} {K : PySem.W.Frag} {mg : Str → Option Value} {base : Heap}
def spLoad : Sp := fun vs H Q _ => ∃ (f : Addr) (most : Int), vs = [.ref f, .int most] ∧ 0 ≤ most ∧ most ≤ 99 ∧ FeedAt H f ∧
  ∀ H' p (ns : List Int), Ch f H H' → FeedAt H' f → H p = none → H' p = some (.lst (ns.map V.int)) → (ns.length : Int) ≤ most → (∀ n ∈ ns, n.natAbs < 2 ^ 32) → Q (.ref p) H'
theorem ok_load {f fT fP : Addr} {fd fdT fdP : FuncData} {k : Nat} (F : Fun K "_law_load" "_law_load" sLoad f fd) (FT : Fun K "_law_take" "_law_take" sTake fT fdT) (gT : mg "_law_take" = some (.ref fT)) (bT : Binds K fdT ["feed", "many"] [])
    (FP : Fun K "_law_pick" "_law_pick" sPick fP fdP) (gP : mg "_law_pick" = some (.ref fP)) (bP : Binds K fdP ["feed", "some"] []) (ml : mg "len" = none) (mr : mg "range" = none) (mm : mg "min" = none) :
    FnOk P w K mg base CX0 (k + 3) f fd ["feed", "most"] spLoad := by
  have GT : FnOk P w K mg base CX0 (k + 1) fT fdT ["feed", "many"] spTake := ok_take FT
  have GP : FnOk P w K mg base CX0 (k + 2) fP fdP ["feed", "some"] (spPick K) := ok_pick FP FT gT bT ml
  refine F.ok scLoad (fun vs H Q E h => ?_) (fun cdv A outer s H vs Q E hr h => ?_)
  · obtain ⟨a, m, rfl, _⟩ := h
    rfl
  · obtain ⟨f, most, rfl, m0, m1, hf, q⟩ := h
    have hrT := hr.mono (Nat.le_succ (k + 1))
    refine ⟨_, pss_cons (ps_set (i := 2) scLoad.nd rfl (.inl rfl) (pe_call GT hrT (by rfl) gT FT.kp bT .nil pass0 (pa_cons (pv 0) (pa_cons (pe_op op_add (pv 1) pe_int) pa_nil))))
      (pss_cons (ps_set (i := 3) scLoad.nd rfl (.inl rfl) (pe_call GT hrT (by rfl) gT FT.kp bT .nil pass0 (pa_cons (pv 0) (pa_cons pe_int pa_nil))))
      (pss_cons (ps_if (pt_cmpR op_lt (pv 3) pe_int (nomark _))
        (pss_cons (ps_set (i := 4) scLoad.nd rfl (.inr rfl) (pe_call GP hr (by rfl) gP FP.kp bP .nil pass0 (pa_cons (pv 0) (pa_cons (pe_lst (pa_cons pe_int (pa_cons pe_int (pa_cons pe_int (pa_cons pe_int pa_nil))))) pa_nil))))
          (pss_one (ps_ret (pe_lc (own := [("turn", 5)]) (g := gName 5) rfl scLoad.nd (pi_range1 rfl mr (pa_cons (pv 2) pa_nil)) (blkOk_by (own := [("turn", 5)]) (N := ["feed", "most", "size", "way", "few", "turn", "middle", "step", "found"]) (sc := defScope sLoad) (by decide +kernel))
            (fun _ _ _ _ _ => pg_name (i := 5) scLoad.nd rfl (Or.inl rfl) (Or.inr rfl)) (fun _ _ _ _ _ => pts_nil)
            (fun _ _ _ _ _ => pe_call GT hrT (by rfl) gT FT.kp bT .nil pass0 (pa_cons (pv 0) (pa_cons (pv 4) pa_nil))))))) pss_nil)
      (pss_cons (ps_if (pt_cmpR op_eq (pv 3) pe_int (nomark _))
          (pss_one (ps_ret (pe_lc (own := [("turn", 5)]) (g := gName 5) rfl scLoad.nd (pi_range1 rfl mr (pa_cons (pv 2) pa_nil)) (blkOk_by (own := [("turn", 5)]) (N := ["feed", "most", "size", "way", "few", "turn", "middle", "step", "found"]) (sc := defScope sLoad) (by decide +kernel))
            (fun _ _ _ _ _ => pg_name (i := 5) scLoad.nd rfl (Or.inl rfl) (Or.inr rfl)) (fun _ _ _ _ _ => pts_nil)
            (fun _ _ _ _ _ => pe_op op_sub (pe_call GT hrT (by rfl) gT FT.kp bT .nil pass0 (pa_cons (pv 0) (pa_cons (pe_op op_add (pe_op op_mul pe_int (pe_op op_pow pe_int pe_int)) pe_int) pa_nil))) (pe_op op_pow pe_int pe_int))))) pss_nil)
      (pss_cons (ps_if (pt_cmpR op_eq (pv 3) pe_int (nomark _))
          (pss_cons (ps_par3 (i := 6) (j := 7) (l := 8) (by rfl) scLoad.nd rfl rfl rfl (by decide) (by decide) (by decide) rfl rfl rfl
              (pa_cons (pe_call GT hrT (by rfl) gT FT.kp bT .nil pass0 (pa_cons (pv 0) (pa_cons (pe_op op_add (pv 2) pe_int) pa_nil)))
                (pa_cons (pe_call GP hr (by rfl) gP FP.kp bP .nil pass0 (pa_cons (pv 0) (pa_cons (pe_lst (pa_cons pe_int (pa_cons pe_int (pa_cons (pe_un un_neg pe_int) pa_nil)))) pa_nil)))
                  (pa_cons (pe_lst pa_nil) pa_nil))) (by rfl))
          (pss_cons (ps_for PassesOwn.never rfl (pi_range1 rfl mr (pa_cons (pv 2) pa_nil)) (pg_name (i := 5) scLoad.nd rfl (.inl rfl))
              (pss_cons (ps_expr (pe_bm PySem.F.plainAttrs_list PySem.F.slot_list_append PySem.F.type_list_append mt_append (pv 8) (pa_cons (pe_op op_mul (pv 7) (pe_callB (call_min2 rfl) (by rfl) mm (by decide +kernel) (pa_cons (pv 5) (pa_cons (pv 6) pa_nil)))) pa_nil)))
                (pss_one (ps_set (i := 7) scLoad.nd rfl (.inl rfl) (pe_op op_sub pe_int (pv 7))))))
            (pss_one (ps_ret (pv 8))))) pss_nil)
      (pss_cons (ps_if (pt_cmpR op_eq (pv 3) pe_int (nomark _))
          (pss_one (ps_ret (pe_lc (own := [("turn", 5)]) (g := gName 5) rfl scLoad.nd (pi_range1 rfl mr (pa_cons (pv 2) pa_nil)) (blkOk_by (own := [("turn", 5)]) (N := ["feed", "most", "size", "way", "few", "turn", "middle", "step", "found"]) (sc := defScope sLoad) (by decide +kernel))
            (fun _ _ _ _ _ => pg_name (i := 5) scLoad.nd rfl (Or.inl rfl) (Or.inr rfl)) (fun _ _ _ _ _ => pts_nil)
            (fun _ _ _ _ _ => pe_op op_sub (pe_op op_fdiv (pv 5) pe_int) (pe_call GT hrT (by rfl) gT FT.kp bT .nil pass0 (pa_cons (pv 0) (pa_cons pe_int pa_nil))))))) pss_nil)
      (pss_one (ps_ret (pe_lc (own := [("turn", 5)]) (g := gName 5) rfl scLoad.nd (pi_range1 rfl mr (pa_cons (pv 2) pa_nil)) (blkOk_by (own := [("turn", 5)]) (N := ["feed", "most", "size", "way", "few", "turn", "middle", "step", "found"]) (sc := defScope sLoad) (by decide +kernel))
            (fun _ _ _ _ _ => pg_name (i := 5) scLoad.nd rfl (Or.inl rfl) (Or.inr rfl)) (fun _ _ _ _ _ => pts_nil)
            (fun _ _ _ _ _ => pe_call GP hr (by rfl) gP FP.kp bP .nil pass0 (pa_cons (pv 0) (pa_cons (pe_lst (pa_cons pe_int (pa_cons (pe_un un_neg pe_int) (pa_cons pe_int (pa_cons pe_int pa_nil))))) pa_nil))))))))))), ?_⟩
    -- size
    refine ⟨.ref f, rfl, .int most, rfl, most, 1, rfl, rfl, f, _, rfl, by omega, by omega, hf, fun H1 sz c1 f1 z0 z1 => ?_⟩
    -- way
    refine ⟨.ref f, rfl, f, _, rfl, by decide, by decide, f1, fun H2 way c2 f2 w0 w1 => ?_⟩
    have cc := c1.trans c2
    obtain ⟨n, rfl⟩ : ∃ n : Nat, sz = (n : Int) := ⟨sz.toNat, by omega⟩
    have hn : n ≤ 100 := by omega
    have b62 : -(2 ^ 62) ≤ ((n : Nat) : Int) ∧ ((n : Nat) : Int) < 2 ^ 62 := ⟨by omega, by omega⟩
    have fin : ∀ (D : Addr) (H' : Hp), H D = none → Grown f D H n H' → Q (.ref D) H' := fun D H' n0 g => by
      obtain ⟨c, fe, ns, hl, hb, e⟩ := g
      exact q H' D ns c fe n0 e (by omega) hb
    refine ⟨.int way, rfl, way, 3, rfl, rfl, _, rfl, ite2 (fun _ => ?_) (fun _ => ?_)⟩
    · -- few values
      refine ⟨.ref f, rfl, by decide, fun l nl => ?_⟩
      have nlf := f2.ne nl
      refine ⟨f, l, _, rfl, nlf, SqL.of upd_same, by decide, by decide, f2.upd nlf, fun H3 j v hj c3 f3 => ?_⟩
      have c03 : Ch f H H3 := (Ch.again (cc.free nlf nl) cc).trans c3
      have hv : ∃ few : Int, v = .int few ∧ 0 < few ∧ few < 10 := by
        rcases four hj with e | e | e | e <;> exact ⟨_, e, by decide, by decide⟩
      obtain ⟨few, rfl, p0, p1⟩ := hv
      refine ⟨.int (n : Int), rfl, (n : Int), rfl, b62.1, b62.2, fun D nD => ?_⟩
      have nDf := f3.ne nD
      have n0 := c03.free nDf nD
      refine lc_range (lo := 0) (n := ((n : Int)).toNat) (fun i H' => Grown f D H i H') (Grown.start c03 f3 n0 nDf) (fun i H' hi g => ?_) (fun H' g => fin D H' n0 g)
      refine ⟨rfl, ?_⟩
      refine iteT (B := True) ?_
      refine ⟨.ref f, rfl, .int few, rfl, f, few, rfl, p0, by omega, g.2.1, fun H4 r c4 f4 r0 r1 => g.turn n0 nDf (by omega) c4 f4 (by omega)⟩
    refine ⟨.int way, rfl, rfl, _, rfl, ite2 (fun _ => ?_) (fun _ => ?_)⟩
    · -- great values
      refine ⟨.int (n : Int), rfl, (n : Int), rfl, b62.1, b62.2, fun D nD => ?_⟩
      have nDf := f2.ne nD
      have n0 := cc.free nDf nD
      refine lc_range (lo := 0) (n := ((n : Int)).toNat) (fun i H' => Grown f D H i H') (Grown.start cc f2 n0 nDf) (fun i H' hi g => ?_) (fun H' g => fin D H' n0 g)
      refine ⟨rfl, ?_⟩
      refine iteT (B := True) ?_
      refine ⟨.ref f, rfl, 10, 9, rfl, rfl, ⟨by decide, by decide, by decide⟩, 2, _, rfl, rfl, .inl ⟨by decide, by decide⟩, _, 1, rfl, rfl, f, _, rfl, by decide, by decide, g.2.1, fun H4 r c4 f4 r0 r1 => ?_⟩
      refine ⟨10, 9, rfl, rfl, ⟨by decide, by decide, by decide⟩, r, _, rfl, rfl, g.turn n0 nDf (by omega) c4 f4 ?_⟩
      have e9 : (10 : Int) ^ (9 : Int).toNat = 1000000000 := by decide
      rw [e9] at r1 ⊢
      omega
    refine ⟨.int way, rfl, rfl, _, rfl, ite2 (fun _ => ?_) (fun _ => ?_)⟩
    · -- wider and narrower swings
      refine ⟨.ref f, rfl, .int (n : Int), rfl, (n : Int), 1, rfl, rfl, f, _, rfl, by omega, by omega, f2, fun H3 mid c3 f3 m0 m1 => ?_⟩
      have c03 := cc.trans c3
      refine ⟨.ref f, rfl, 1, rfl, by decide, fun l nl => ?_⟩
      have nlf := f3.ne nl
      refine ⟨f, l, _, rfl, nlf, SqL.of upd_same, by decide, by decide, f3.upd nlf, fun H4 j v hj c4 f4 => ?_⟩
      have c04 : Ch f H H4 := (Ch.again (c03.free nlf nl) c03).trans c4
      have hv : ∃ st : Int, v = .int st ∧ -2 ≤ st ∧ st ≤ 2 := by
        rcases three hj with e | e | e <;> exact ⟨_, e, by decide, by decide⟩
      obtain ⟨st, rfl, p0, p1⟩ := hv
      refine ⟨by decide, fun D nD => ?_⟩
      have nDf := f4.ne nD
      have n0 := c04.free nDf nD
      refine ⟨_, _, _, rfl, .int (n : Int), rfl, (n : Int), rfl, b62.1, b62.2, for_range (lo := 0) (n := ((n : Int)).toNat)
        (fun i σ H' => Grown f D H i H' ∧ ∃ (st : Int) (r5 : Option V), -2 ≤ st ∧ st ≤ 2 ∧ σ = [some (.ref f), some (.int most), some (.int (n : Int)), some (.int way), none, r5, some (.int mid), some (.int st), some (.ref D)]) ?_ ?_ ?_⟩
      · exact ⟨Grown.start c04 f4 n0 nDf, st, none, p0, p1, rfl⟩
      · rintro i σ H' hi ⟨g, st, r5, p0, p1, rfl⟩
        have hi2 : i < 101 := by omega
        obtain ⟨acc, e1, e2, e3⟩ := g.turn n0 nDf (by omega) (Ch.refl f H') g.2.1 (r := st * (if mid < (0 + (i : Int)) then mid else (0 + (i : Int)))) (by
          have hx : 0 ≤ (if mid < (0 + (i : Int)) then mid else (0 + (i : Int))) ∧ (if mid < (0 + (i : Int)) then mid else (0 + (i : Int))) ≤ 200 := by split <;> omega
          generalize (if mid < (0 + (i : Int)) then mid else (0 + (i : Int))) = x at hx
          have hst : st = -2 ∨ st = -1 ∨ st = 0 ∨ st = 1 ∨ st = 2 := by omega
          rcases hst with e | e | e | e | e <;> subst e <;> omega)
        refine ⟨.ref D, rfl, .inl ⟨rfl, _, SqL.of e1⟩, .int st, rfl, .int (0 + (i : Int)), rfl, .int mid, rfl, 0 + (i : Int), mid, rfl, st, _, rfl, rfl, .inl ⟨by omega, by omega⟩, D, acc, _, rfl, rfl, e1, e2, ?_⟩
        exact ⟨.int st, rfl, 0, st, rfl, rfl, e3, 0 - st, _, by omega, by omega, rfl⟩
      · rintro σ H' ⟨g, st, r5, _, _, rfl⟩
        exact ⟨.ref D, rfl, fin D H' n0 g⟩
    refine ⟨.int way, rfl, rfl, _, rfl, ite2 (fun _ => ?_) (fun _ => ?_)⟩
    · -- a climb
      refine ⟨.int (n : Int), rfl, (n : Int), rfl, b62.1, b62.2, fun D nD => ?_⟩
      have nDf := f2.ne nD
      have n0 := cc.free nDf nD
      refine lc_range (lo := 0) (n := ((n : Int)).toNat) (fun i H' => Grown f D H i H') (Grown.start cc f2 n0 nDf) (fun i H' hi g => ?_) (fun H' g => fin D H' n0 g)
      refine ⟨rfl, ?_⟩
      refine iteT (B := True) ?_
      refine ⟨.int (0 + (i : Int)), rfl, 0 + (i : Int), 2, rfl, rfl, ⟨by decide, by decide⟩, .ref f, rfl, f, _, rfl, by decide, by decide, g.2.1, fun H4 r c4 f4 r0 r1 => ?_⟩
      exact ⟨_, r, rfl, rfl, g.turn n0 nDf (by omega) c4 f4 (by omega)⟩
    · refine ⟨.int (n : Int), rfl, (n : Int), rfl, b62.1, b62.2, fun D nD => ?_⟩
      have nDf := f2.ne nD
      have n0 := cc.free nDf nD
      refine lc_range (lo := 0) (n := ((n : Int)).toNat) (fun i H' => Grown f D H i H') (Grown.start cc f2 n0 nDf) (fun i H' hi g => ?_) (fun H' g => fin D H' n0 g)
      refine ⟨rfl, ?_⟩
      refine iteT (B := True) ?_
      refine ⟨.ref f, rfl, 7, rfl, by decide, fun l nl => ?_⟩
      have nlf := g.2.1.ne nl
      refine ⟨f, l, _, rfl, nlf, SqL.of upd_same, by decide, by decide, g.2.1.upd nlf, fun H4 j v hj c4 f4 => ?_⟩
      have hv : ∃ r : Int, v = .int r ∧ r.natAbs < 2 ^ 32 := by
        rcases four hj with e | e | e | e <;> exact ⟨_, e, by decide⟩
      obtain ⟨r, rfl, hr2⟩ := hv
      exact g.turn n0 nDf (by omega) ((Ch.new nl).trans c4) f4 hr2
end
end KL

/-! the program's turning points and swings -/
namespace PA
open PySem PySem.Spec PyProof.Rows L2 KA PH PM
abbrev sCont : Stmt := topS 999
abbrev sRng : Stmt := topS 2
abbrev sTP : Stmt := topS 3
abbrev sBtw : Stmt := topS 5
abbrev sLO : Stmt := topS 4
abbrev sSw : Stmt := topS 6
theorem scRng : FnScope ["one", "other"] ["one", "other"] (defScope sRng) := ⟨rfl, rfl, rfl, by decide +kernel, rfl, by decide +kernel, by decide +kernel⟩
theorem scTP : FnScope ["load", "points", "reading"] ["load"] (defScope sTP) := ⟨rfl, rfl, rfl, by decide +kernel, rfl, by decide +kernel, by decide +kernel⟩
theorem scLO : FnScope ["points", "reading", "last"] ["points", "reading"] (defScope sLO) := ⟨rfl, rfl, rfl, by decide +kernel, rfl, by decide +kernel, by decide +kernel⟩
theorem scBtw : FnScope ["reading", "before", "after"] ["reading", "before", "after"] (defScope sBtw) := ⟨rfl, rfl, rfl, by decide +kernel, rfl, by decide +kernel, by decide +kernel⟩
theorem scSw : FnScope ["load", "points", "one", "other"] ["load"] (defScope sSw) := ⟨rfl, rfl, rfl, by decide +kernel, rfl, by decide +kernel, by decide +kernel⟩
section
variable {P : Program} {w : World} {K : PySem.W.Frag} {mg : Str → Option Value} {base : Heap}
def spCont (K : PySem.W.Frag) : Sp := fun vs H Q _ => ∃ (p q : Addr) (a b c d : Int), vs = [.ref p, .ref q] ∧ SqT K H p [.int a, .int b] ∧ SqT K H q [.int c, .int d] ∧ Q (.bl (decide (a ≤ c) && decide (d ≤ b))) H
def spRng : Sp := fun vs H Q _ => ∃ (a b : Int), vs = [.int a, .int b] ∧ ∀ p, H p = none → Q (.ref p) (upd H p (.tup [.int (rg a b).1, .int (rg a b).2]))
theorem ok_Rng {f : Addr} {fd : FuncData} {k : Nat} (F : Fun K "range_of" "range_of" sRng f fd) (mn : mg "min" = none) (mx : mg "max" = none) : FnOk P w K mg base CX0 (k + 1) f fd ["one", "other"] spRng := by
  refine F.ok scRng (fun vs H Q E h => ?_) (fun cdv A outer s H vs Q E hr h => ?_)
  · obtain ⟨a, b, rfl, _⟩ := h
    rfl
  · obtain ⟨a, b, rfl, hq⟩ := h
    refine ⟨_, pss_one (ps_ret (pe_tup (pa_cons (pe_callB (call_min2 rfl) (by rfl) mn (by decide +kernel) (pa_cons (pv 0) (pa_cons (pv 1) pa_nil))) (pa_cons (pe_callB (call_max2 rfl) (by rfl) mx (by decide +kernel) (pa_cons (pv 0) (pa_cons (pv 1) pa_nil))) pa_nil)))), ?_⟩
    exact ⟨.int a, rfl, .int b, rfl, a, b, rfl, .int a, rfl, .int b, rfl, a, b, rfl, by show 2 ≤ sizeLine; decide, fun p np => hq p np⟩
def spBtw : Sp := fun vs H Q _ => ∃ (r b a : Int), vs = [.int r, .int b, .int a] ∧ Q (.bl (decide (Btw r b a))) H
theorem ok_btw {f : Addr} {fd : FuncData} {k : Nat} (F : Fun K "_lies_between" "_lies_between" sBtw f fd) : FnOk P w K mg base CX0 (k + 1) f fd ["reading", "before", "after"] spBtw := by
  refine F.ok scBtw (fun vs H Q E h => ?_) (fun cdv A outer s H vs Q E hr h => ?_)
  · obtain ⟨r, b, a, rfl, _⟩ := h
    rfl
  · obtain ⟨r, b, a, rfl, hq⟩ := h
    refine ⟨_, pss_one (ps_ret (pe_or (pe_chain op_lt op_lt (pv 1) (pv 0) (pv 2)) (pe_one (pe_chain op_lt op_lt (pv 2) (pv 0) (pv 1))))), ?_⟩
    refine ⟨.int b, rfl, .int r, rfl, b, r, rfl, rfl, _, rfl, ?_⟩
    have second : ¬ (b < r ∧ r < a) → tOrV (fun _ H Q => Q (.bl false) H) (tChain (fun x y H Q => ∃ i j, x = .int i ∧ y = .int j ∧ Q (.bl (decide (i < j))) H) (fun x y H Q => ∃ i j, x = .int i ∧ y = .int j ∧ Q (.bl (decide (i < j))) H) (tVar 2) (tVar 0) (tVar 1)) [some (.int r), some (.int b), some (.int a)] H Q := by
      intro hn
      refine ⟨false, rfl, iteF ⟨.int a, rfl, .int r, rfl, a, r, rfl, rfl, _, rfl, ?_⟩⟩
      by_cases e : a < r
      · rw [decide_eq_true e]
        refine iteT ⟨.int b, rfl, r, b, rfl, rfl, ?_⟩
        have e2 : decide (Btw r b a) = decide (r < b) := by rw [decide_eq_decide]; omega
        rw [e2] at hq
        exact hq
      · rw [decide_eq_false e]
        have e2 : decide (Btw r b a) = false := decide_eq_false (by omega)
        rw [e2] at hq
        exact iteF hq
    by_cases e : b < r
    · rw [decide_eq_true e]
      refine iteT ⟨.int a, rfl, r, a, rfl, rfl, _, rfl, ?_⟩
      by_cases e2 : r < a
      · rw [decide_eq_true e2]
        have e3 : decide (Btw r b a) = true := decide_eq_true (.inl ⟨e, e2⟩)
        rw [e3] at hq
        exact iteT hq
      · rw [decide_eq_false e2]
        obtain ⟨_, h1, h2⟩ := second (fun z => e2 z.2)
        cases h1
        exact h2
    · rw [decide_eq_false e]
      obtain ⟨_, h1, h2⟩ := second (fun z => e z.1)
      cases h1
      exact iteF ⟨false, rfl, h2⟩
end
end PA

/-! places, sorted pairs, the stack's turns -/
namespace RN
open PM RM
def takenAt (ps : List Int) (i : Nat) : Bool := match ps.drop i with
  | a :: b :: c :: d :: _ => decide (Taken a b c d)
  | _ => false
theorem taken_here {ps : List Int} {i : Nat} (h : takenAt ps i = true) : ∃ pre a b c d post, ps = pre ++ a :: b :: c :: d :: post ∧ pre.length = i ∧ Taken a b c d := by
  unfold takenAt at h
  split at h
  · rename_i a b c d post e
    refine ⟨ps.take i, a, b, c, d, post, by rw [← e, List.take_append_drop], ?_, of_decide_eq_true h⟩
    have : (ps.drop i).length = post.length + 4 := by rw [e]; simp
    rw [List.length_drop] at this
    rw [List.length_take]
    omega
  · cases h
theorem taken_get {ps : List Int} {i : Nat} {a b c d : Int} (h0 : ps[i]? = some a) (h1 : ps[i + 1]? = some b) (h2 : ps[i + 2]? = some c) (h3 : ps[i + 3]? = some d) : takenAt ps i = decide (Taken a b c d) := by
  have e : ∀ {j : Nat} {r : Int}, ps[j]? = some r → ps.drop j = r :: ps.drop (j + 1) := fun {j r} h => by
    obtain ⟨k1, k2⟩ := List.getElem?_eq_some_iff.mp h
    rw [List.drop_eq_getElem_cons k1, k2]
  unfold takenAt
  rw [e h0, e h1, e h2, e h3]
theorem taken_lt {ps : List Int} {i : Nat} (h : takenAt ps i = true) : i < ps.length - 3 := by
  obtain ⟨pre, a, b, c, d, post, e, hl, _⟩ := taken_here h
  rw [e]
  simp only [List.length_append, List.length_cons]
  omega
theorem step_at {ps q : List Int} {cy : Int × Int} (h : Step ps cy q) : ∃ i, takenAt ps i = true := by
  induction h with
  | here t => exact ⟨0, decide_eq_true t⟩
  | there _ ih =>
    obtain ⟨i, e⟩ := ih
    exact ⟨i + 1, e⟩
def plc (ps : List Int) : List Int := ((List.range (ps.length - 3)).filter (takenAt ps)).map fun (i : Nat) => (i : Int) + 1
theorem plc_mem {ps : List Int} {x : Int} (h : x ∈ plc ps) : ∃ i : Nat, x = (i : Int) + 1 ∧ takenAt ps i = true := by
  obtain ⟨i, hi, e⟩ := List.mem_map.mp h
  exact ⟨i, e.symm, (List.mem_filter.mp hi).2⟩
theorem nf_of_plc {ps : List Int} (h : plc ps = []) : NF ps := by
  intro c q s
  obtain ⟨i, e⟩ := step_at s
  have : (i : Int) + 1 ∈ plc ps := List.mem_map.mpr ⟨i, List.mem_filter.mpr ⟨List.mem_range.mpr (taken_lt e), e⟩, rfl⟩
  rw [h] at this
  cases this
theorem plc_of_nf {ps : List Int} (h : NF ps) : plc ps = [] := by
  cases e : plc ps with
  | nil => rfl
  | cons x l =>
    have hx : x ∈ plc ps := by rw [e]; exact List.mem_cons_self
    obtain ⟨i, _, t⟩ := plc_mem hx
    obtain ⟨pre, a, b, c, d, post, e2, _, tk⟩ := taken_here t
    rw [e2] at h
    exact absurd ((Step.here tk).prefix pre) (h _ _)
theorem Run.suffix {p q : List Int} {cs : List (Int × Int)} (h : Run p cs q) (l : List Int) : Run (p ++ l) cs (q ++ l) := by
  induction h with
  | nil p => exact .nil _
  | cons s _ ih => exact .cons (s.suffix l) ih
theorem Run.ends {p r : List Int} {cs : List (Int × Int)} (h : Run p cs r) : (cs = [] ∧ p = r) ∨ 2 ≤ r.length := by
  induction h with
  | nil p => exact .inl ⟨rfl, rfl⟩
  | @cons p q r c cs s h ih =>
    refine .inr ?_
    rcases ih with ⟨_, e⟩ | e
    · subst e
      have : ∀ {p q : List Int} {c : Int × Int}, Step p c q → 2 ≤ q.length := by
        intro p q c s
        induction s with
        | here _ => simp only [List.length_cons]; omega
        | there _ ih => simp only [List.length_cons]; omega
      exact this s
    · exact e
theorem tq_zig : ∀ (l : List Int) (b a : Int), ZZ (b :: a :: l) → tq b a l = a :: l
  | [], _, _, _ => rfl
  | r :: l, b, a, z => by
    have h1 := z.1
    simp only [tq]
    rw [if_neg (by omega), if_neg (by omega), tq_zig l a r z.2]
theorem zz_tp {ps : List Int} (z : ZZ ps) : tp ps = ps := by
  match ps, z with
  | [], _ => rfl
  | [x], _ => rfl
  | x :: y :: l, z =>
    show ts x (y :: l) = _
    simp only [ts]
    rw [if_neg (zz_cons z), tq_zig l x y z]
/-- pairs in their order -/
abbrev Le (r s : Int × Int) : Prop := r.1 < s.1 ∨ (r.1 = s.1 ∧ r.2 ≤ s.2)
theorem le_anti {r s : Int × Int} (h1 : Le r s) (h2 : Le s r) : r = s := by
  obtain ⟨a, b⟩ := r
  obtain ⟨c, d⟩ := s
  have e1 : a = c := by simp only [Le] at h1 h2; omega
  have e2 : b = d := by simp only [Le] at h1 h2; omega
  rw [e1, e2]
theorem sorted_same : ∀ {l m : List (Int × Int)}, l.Perm m → l.Pairwise Le → m.Pairwise Le → l = m
  | [], m, h, _, _ => (List.Perm.nil_eq h)
  | x :: l, m, h, h1, h2 => by
    cases m with
    | nil => exact absurd h.length_eq (by simp)
    | cons y m =>
      have hx := List.pairwise_cons.mp h1
      have hy := List.pairwise_cons.mp h2
      have e : x = y := by
        have m1 : x ∈ y :: m := h.mem_iff.mp List.mem_cons_self
        have m2 : y ∈ x :: l := h.mem_iff.mpr List.mem_cons_self
        rcases List.mem_cons.mp m1 with e | e
        · exact e
        · rcases List.mem_cons.mp m2 with e' | e'
          · exact e'.symm
          · exact le_anti (hx.1 y e') (hy.1 x e)
      subst e
      rw [sorted_same ((List.perm_cons x).mp h) hx.2 hy.2]
end RN

/-! readings put behind a rest one by one -/
namespace RS
open PM RM RN
/-- the last of some points is none any more with a reading behind it -/
def lo : List Int → Int → Bool
  | [], _ => false
  | [u], r => decide (u = r)
  | [b, u], r => decide (u = r) || decide (Btw u b r)
  | _ :: u :: v :: t, r => lo (u :: v :: t) r
def push : List Int → Int → List Int
  | [], r => [r]
  | [u], r => if u = r then [r] else [u, r]
  | [b, u], r => if u = r ∨ Btw u b r then [b, r] else [b, u, r]
  | b :: u :: v :: t, r => b :: push (u :: v :: t) r
theorem lo_two : ∀ (dn : List Int) (b u r : Int), lo (dn ++ [b, u]) r = (decide (u = r) || decide (Btw u b r))
  | [], _, _, _ => rfl
  | [x], _, _, _ => rfl
  | x :: y :: dn, b, u, r => by
    have h := lo_two (y :: dn) b u r
    cases dn with
    | nil => exact h
    | cons z dn => exact h
theorem push_lo : ∀ (p : List Int) (r : Int), push p r = (if lo p r = true then p.dropLast else p) ++ [r]
  | [], _ => rfl
  | [u], r => by
    simp only [push, lo, decide_eq_true_eq]
    split <;> simp
  | [b, u], r => by
    simp only [push, lo, Bool.or_eq_true, decide_eq_true_eq]
    split <;> simp
  | b :: u :: v :: t, r => by
    have h := push_lo (u :: v :: t) r
    simp only [push, lo]
    rw [h]
    by_cases e : lo (u :: v :: t) r = true
    · simp [e]
    · simp [e]
theorem push_two (dn : List Int) (b u r : Int) : push (dn ++ [b, u]) r = if u = r ∨ Btw u b r then dn ++ [b, r] else dn ++ [b, u, r] := by
  rw [push_lo, lo_two]
  simp only [Bool.or_eq_true, decide_eq_true_eq]
  split
  · rw [show dn ++ [b, u] = (dn ++ [b]) ++ [u] by simp, List.dropLast_concat]; simp
  · simp
theorem push_cons (b : Int) : ∀ {p : List Int} (r : Int), 2 ≤ p.length → push (b :: p) r = b :: push p r
  | [], _, h => by simp at h
  | [_], _, h => by simp at h
  | _ :: _ :: _, _, _ => rfl
theorem tq_ne (b a : Int) : ∀ l, 1 ≤ (tq b a l).length
  | [] => Nat.le_refl _
  | r :: l => by
    simp only [tq]
    split
    · exact tq_ne b a l
    · split
      · exact tq_ne b r l
      · simp
theorem tq_push : ∀ (l : List Int) (b a r : Int), b :: tq b a (l ++ [r]) = push (b :: tq b a l) r
  | [], b, a, r => by
    show b :: tq b a [r] = push [b, a] r
    simp only [tq, push]
    by_cases e : a = r
    · rw [if_pos e, if_pos (Or.inl e), e]
    · rw [if_neg e]
      by_cases bt : Btw a b r
      · rw [if_pos bt, if_pos (Or.inr bt)]
      · rw [if_neg bt, if_neg (fun z => z.elim e bt)]
  | x :: l, b, a, r => by
    simp only [List.cons_append, tq]
    by_cases e : a = x
    · rw [if_pos e, if_pos e]
      exact tq_push l b a r
    · rw [if_neg e, if_neg e]
      by_cases bt : Btw a b x
      · rw [if_pos bt, if_pos bt]
        exact tq_push l b x r
      · rw [if_neg bt, if_neg bt, tq_push l a x r, push_cons b r (by have := tq_ne a x l; simp; omega)]
theorem ts_push : ∀ (l : List Int) (a r : Int), ts a (l ++ [r]) = push (ts a l) r
  | [], a, r => by
    show ts a [r] = push [a] r
    simp only [ts, push]
    by_cases e : a = r
    · rw [if_pos e, if_pos e, e]
    · rw [if_neg e, if_neg e]
      rfl
  | x :: l, a, r => by
    simp only [List.cons_append, ts]
    by_cases e : a = x
    · rw [if_pos e, if_pos e]
      exact ts_push l a r
    · rw [if_neg e, if_neg e]
      exact tq_push l a x r
theorem tp_push (l : List Int) (r : Int) : tp (l ++ [r]) = push (tp l) r := by
  cases l with
  | nil => rfl
  | cons a l => exact ts_push l a r
theorem tp_take {ns : List Int} {i : Nat} {r : Int} (h : ns[i]? = some r) : tp (ns.take (i + 1)) = push (tp (ns.take i)) r := by
  rw [List.take_add_one, h]
  exact tp_push _ _
/-- with points that go up and down, so they go on -/
theorem zz_push {p : List Int} (r : Int) (h : ZZ p) : ZZ (push p r) := by
  have e := tp_push p r
  rw [zz_tp h] at e
  rw [← e]
  exact tp_zz _
theorem taken_abs {a b c d : Int} (h : ZZ (a :: b :: c :: d :: [])) : Taken a b c d ↔ (((b - a).natAbs : Int) ≥ ((c - b).natAbs : Int) ∧ ((d - c).natAbs : Int) ≥ ((c - b).natAbs : Int)) := by
  rw [taken_iff h]
  have h1 := h.1
  have h2 := h.2.1
  omega
theorem zz_at {ps : List Int} : ZZ ps → ∀ {i : Nat} {a b c d : Int}, ps[i]? = some a → ps[i + 1]? = some b → ps[i + 2]? = some c → ps[i + 3]? = some d → ZZ [a, b, c, d] := by
  intro h
  induction ps with
  | nil => intro i a b c d h0; cases h0
  | cons x p ih =>
    intro i a b c d h0 h1 h2 h3
    cases i with
    | succ i => exact ih h.tail h0 h1 h2 h3
    | zero =>
      match p, h, h1, h2, h3 with
      | y :: z :: u :: t, h, h1, h2, h3 =>
        obtain rfl := Option.some.inj h0
        obtain rfl := Option.some.inj h1
        obtain rfl := Option.some.inj h2
        obtain rfl := Option.some.inj h3
        exact h.four
theorem zz_mid {pre : List Int} {a b c d : Int} {post : List Int} (h : ZZ (pre ++ a :: b :: c :: d :: post)) : ZZ [a, b, c, d] := by
  induction pre with
  | nil => exact h.four
  | cons x p ih => exact ih h.tail
theorem zz_mid3 {pre : List Int} {a b c : Int} {post : List Int} (h : ZZ (pre ++ a :: b :: c :: post)) : ((a < b ∧ c < b) ∨ (b < a ∧ b < c)) := by
  induction pre with
  | nil => exact h.1
  | cons x p ih => exact ih h.tail
theorem step_on {p q : List Int} {cy : Int × Int} (s : Step p cy q) : ∀ {m : List Int} {b u : Int}, p = m ++ [b, u] → ZZ p →
    ∃ m' b', q = m' ++ [b', u] ∧ (b < u ↔ b' < u) ∧ (u < b ↔ u < b') ∧ ∀ r, (b < u → u ≤ r) → (u < b → r ≤ u) → Step (m ++ [b, r]) cy (m' ++ [b', r]) := by
  induction s with
  | @here a b1 c d post t =>
    intro m b u e z
    have ti := (taken_iff z.four).mp t
    rcases List.eq_nil_or_concat post with rfl | ⟨post1, y, rfl⟩
    · have e2 : [a, b1] ++ [c, d] = m ++ [b, u] := e
      obtain ⟨rfl, e4⟩ := List.append_inj' e2 rfl
      injection e4 with e5 e6
      injection e6 with e6 _
      subst e5 e6
      refine ⟨[], a, rfl, by omega, by omega, fun r h1 h2 => ?_⟩
      have zr : ZZ [a, b1, c, r] := ⟨z.1, by have := z.2.1; constructor; have := z.1; omega; show c ≠ r; omega⟩
      exact .here ((taken_iff zr).mpr (by omega))
    · rcases List.eq_nil_or_concat post1 with rfl | ⟨post2, x, rfl⟩
      · have e2 : [a, b1, c] ++ [d, y] = m ++ [b, u] := e
        obtain ⟨rfl, e4⟩ := List.append_inj' e2 rfl
        injection e4 with e5 e6
        injection e6 with e6 _
        subst e5 e6
        exact ⟨[a], d, rfl, Iff.rfl, Iff.rfl, fun r _ _ => .here t⟩
      · have e2 : (a :: b1 :: c :: d :: post2) ++ [x, y] = m ++ [b, u] := by rw [← e]; simp
        obtain ⟨rfl, e4⟩ := List.append_inj' e2 rfl
        injection e4 with e5 e6
        injection e6 with e6 _
        subst e5 e6
        exact ⟨a :: d :: post2, x, by simp, Iff.rfl, Iff.rfl, fun r _ _ => .here t⟩
  | @there x p q cy s ih =>
    intro m b u e z
    cases m with
    | nil =>
      have hl := s.len
      injection e with _ e
      rw [e] at hl
      simp at hl
    | cons y m =>
      injection e with e1 e2
      subst e1
      obtain ⟨m', b', h1, h2, h3, h4⟩ := ih e2 z.tail
      exact ⟨x :: m', b', by rw [h1]; rfl, h2, h3, fun r k1 k2 => .there (h4 r k1 k2)⟩
theorem run_on {p q : List Int} {cs : List (Int × Int)} (h : Run p cs q) : ∀ {m : List Int} {b u : Int}, p = m ++ [b, u] → ZZ p →
    ∃ m' b', q = m' ++ [b', u] ∧ (b < u ↔ b' < u) ∧ (u < b ↔ u < b') ∧ ∀ r, (b < u → u ≤ r) → (u < b → r ≤ u) → Run (m ++ [b, r]) cs (m' ++ [b', r]) := by
  induction h with
  | nil p => exact fun {m b u} e z => ⟨m, b, e, Iff.rfl, Iff.rfl, fun r _ _ => .nil _⟩
  | @cons p q r0 c cs s run ih =>
    intro m b u e z
    obtain ⟨m1, b1, h1, h2, h3, h4⟩ := step_on s e z
    obtain ⟨m2, b2, k1, k2, k3, k4⟩ := ih h1 (ZZ.step s z)
    exact ⟨m2, b2, k1, h2.trans k2, h3.trans k3, fun r j1 j2 => .cons (h4 r j1 j2) (k4 r (fun z => j1 (h2.mpr z)) (fun z => j2 (h3.mpr z)))⟩
theorem step_two {p q : List Int} {c : Int × Int} (s : Step p c q) : 2 ≤ q.length := by
  induction s with
  | here _ => simp only [List.length_cons]; omega
  | there _ ih => simp only [List.length_cons]; omega
theorem two_last {p : List Int} (h : 2 ≤ p.length) : ∃ m b u, p = m ++ [b, u] := by
  rcases List.eq_nil_or_concat p with rfl | ⟨m1, d, rfl⟩
  · simp at h
  · rcases List.eq_nil_or_concat m1 with rfl | ⟨m2, c, rfl⟩
    · simp at h
    · exact ⟨m2, c, d, by simp⟩
/-- a reading behind a load is a reading behind its rest -/
theorem run_push {p q : List Int} {cs : List (Int × Int)} (h : Run p cs q) (z : ZZ p) (r : Int) : Run (push p r) cs (push q r) := by
  by_cases h2 : 2 ≤ p.length
  · obtain ⟨m, b, u, rfl⟩ := two_last h2
    obtain ⟨m', b', rfl, e1, e2, e3⟩ := run_on h rfl z
    rw [push_two, push_two]
    by_cases hb : u = r ∨ Btw u b r
    · have hb' : u = r ∨ Btw u b' r := hb.imp id (fun k => by omega)
      rw [if_pos hb, if_pos hb']
      exact e3 r (fun k => by omega) (fun k => by omega)
    · have hb' : ¬ (u = r ∨ Btw u b' r) := fun k => hb (k.imp id (fun k => by omega))
      rw [if_neg hb, if_neg hb']
      have := RN.Run.suffix h [r]
      simpa using this
  · cases h with
    | nil _ => exact .nil _
    | cons s _ =>
      have := s.len
      have := step_two s
      exact absurd (show 2 ≤ p.length by omega) h2
theorem Run.append {p q r : List Int} {cs ds : List (Int × Int)} (h : Run p cs q) (k : Run q ds r) : Run p (cs ++ ds) r := by
  induction h with
  | nil p => exact k
  | cons s _ ih => exact .cons s (ih k)
/-- one reading more -/
theorem stream {ns : List Int} {i : Nat} {r : Int} {cs cs2 : List (Int × Int)} {rs rs2 : List Int} (hr : ns[i]? = some r) (h : Run (tp (ns.take i)) cs rs) (k : Run (push rs r) cs2 rs2) : Run (tp (ns.take (i + 1))) (cs ++ cs2) rs2 := by
  rw [tp_take hr]
  exact Run.append (run_push h (tp_zz _) r) k
theorem push_len (p : List Int) (r : Int) : (push p r).length ≤ p.length + 1 := by
  rw [push_lo]
  split <;> simp
end RS

/-! turning_points, swings -/
namespace PB
open PySem PySem.Spec PyProof.Rows L2 KA PH PM PA RM RS
theorem atI_last2 (xs : List V) (u v : V) : atI (xs ++ [u] ++ [v]) (-2) = some u := by
  have hl : (xs ++ [u] ++ [v]).length = xs.length + 2 := by simp
  have h : ixN (xs ++ [u] ++ [v]).length (-2) = some xs.length := by
    unfold ixN
    rw [hl, if_neg (by decide), if_pos (by omega)]
    congr 1
    omega
  unfold atI
  rw [h]
  show (xs ++ [u] ++ [v])[xs.length]? = some u
  simp
theorem drop_at {ns : List Int} {i : Nat} {r : Int} (h : ns[i]? = some r) : ns.drop i = r :: ns.drop (i + 1) := by
  obtain ⟨h1, h2⟩ := List.getElem?_eq_some_iff.mp h
  rw [List.drop_eq_getElem_cons h1, h2]
section
variable {P : Program} {w : World} {K : PySem.W.Frag} {mg : Str → Option Value} {base : Heap}
def spTPl (K : PySem.W.Frag) : Sp := fun vs H Q _ => ∃ (a : Addr) (ns : List Int), vs = [.ref a] ∧ SqL K H a (ns.map V.int) ∧ ns.length ≤ 2500 ∧ ∀ H' p, Same H H' → H p = none → H' p = some (.tup ((tp ns).map V.int)) → Q (.ref p) H'
def spTPt (K : PySem.W.Frag) : Sp := fun vs H Q _ => ∃ (a : Addr) (ns : List Int), vs = [.ref a] ∧ SqT K H a (ns.map V.int) ∧ ns.length ≤ 2500 ∧ ∀ H' p, Same H H' → H p = none → H' p = some (.tup ((tp ns).map V.int)) → Q (.ref p) H'
abbrev spTP (K : PySem.W.Frag) : Sp := fun vs H Q E => spTPl K vs H Q E ∨ spTPt K vs H Q E
def spLO (K : PySem.W.Frag) : Sp := fun vs H Q _ => ∃ (a : Addr) (ps : List Int) (r : Int), vs = [.ref a, .int r] ∧ SqL K H a (ps.map V.int) ∧ Q (.bl (lo ps r)) H
theorem ends3 (ps : List Int) : ps = [] ∨ (∃ u, ps = [u]) ∨ ∃ dn b u, ps = dn ++ [b, u] := by
  rcases List.eq_nil_or_concat ps with h | ⟨m1, d, h⟩
  · exact .inl h
  · rcases List.eq_nil_or_concat m1 with h1 | ⟨m2, c, h1⟩
    · subst h1
      exact .inr (.inl ⟨d, by rw [h]; rfl⟩)
    · subst h1
      exact .inr (.inr ⟨m2, c, d, by rw [h]; simp⟩)
theorem ok_LO {f fB : Addr} {fd fdB : FuncData} {k : Nat} (F : Fun K "is_left_out" "is_left_out" sLO f fd) (FB : Fun K "_lies_between" "_lies_between" sBtw fB fdB) (gB : mg "_lies_between" = some (.ref fB)) (bB : Binds K fdB ["reading", "before", "after"] [])
    (ml : mg "len" = none) : FnOk P w K mg base CX0 (k + 2) f fd ["points", "reading"] (spLO K) := by
  have GB : FnOk P w K mg base CX0 (k + 1) fB fdB ["reading", "before", "after"] spBtw := ok_btw FB
  refine F.ok scLO (fun vs H Q E h => ?_) (fun cdv A outer s H vs Q E hr h => ?_)
  · obtain ⟨a, ps, r, rfl, _⟩ := h
    rfl
  · obtain ⟨a, ps, r, rfl, hS, hq⟩ := h
    refine ⟨_, pss_cons (ps_if (pt_not (pt_truth (pv 0) (by intro _; rfl))) (pss_one (ps_ret pe_bl)) pss_nil)
      (pss_cons (ps_set (i := 2) scLO.nd rfl (.inl rfl) (pe_ix ix_list (pv 0) (pe_un un_neg pe_int) (fun _ _ => rfl)))
      (pss_one (ps_ret (pe_or (pe_cmpR op_eq (pv 2) (pv 1) (nomark _)) (pe_one (pe_and (pe_cmpR op_gt (pe_callB call_len_seq (by rfl) ml PySem.boot_len (pa_cons (pv 0) pa_nil)) pe_int (nomark _))
        (pe_one (pe_call GB hr (by rfl) gB FB.kp bB .nil pass0 (pa_cons (pv 2) (pa_cons (pe_ix ix_list (pv 0) (pe_un un_neg pe_int) (fun _ _ => rfl)) (pa_cons (pv 1) pa_nil))))))))))), ?_⟩
    rcases ends3 ps with rfl | ⟨u, rfl⟩ | ⟨dn, b, u, rfl⟩
    · refine ⟨.ref a, rfl, false, .inl ⟨[], hS, rfl⟩, ?_⟩
      refine iteT ?_
      exact hq
    · refine ⟨.ref a, rfl, true, .inl ⟨[.int u], hS, rfl⟩, ?_⟩
      refine iteF ?_
      refine ⟨.ref a, rfl, 1, rfl, a, _, -1, .int u, rfl, rfl, hS, rfl, .int u, rfl, .int r, rfl, rfl, _, rfl, ?_⟩
      by_cases e : u = r
      · rw [show lo [u] r = true from decide_eq_true e] at hq
        rw [decide_eq_true (show V.int u = V.int r by rw [e])]
        exact iteT hq
      · rw [show lo [u] r = false from decide_eq_false e] at hq
        rw [decide_eq_false (show ¬ V.int u = V.int r from fun z => e (V.int.inj z))]
        exact iteF ⟨.ref a, rfl, a, _, rfl, .inl hS, _, _, rfl, rfl, _, rfl, iteF hq⟩
    · have em : ((dn ++ [b, u]).map V.int) = (dn.map V.int ++ [V.int b]) ++ [V.int u] := by simp
      rw [em] at hS
      have e0 : (!((dn.map V.int ++ [V.int b]) ++ [V.int u]).isEmpty) = true := by cases dn <;> rfl
      have hL : ((dn.map V.int ++ [V.int b]) ++ [V.int u]).length = dn.length + 2 := by simp
      rw [lo_two] at hq
      refine ⟨.ref a, rfl, true, .inl ⟨_, hS, e0.symm⟩, ?_⟩
      refine iteF ?_
      refine ⟨.ref a, rfl, 1, rfl, a, _, -1, .int u, rfl, rfl, hS, atI_last _ _, .int u, rfl, .int r, rfl, rfl, _, rfl, ?_⟩
      by_cases e : u = r
      · rw [decide_eq_true e, Bool.true_or] at hq
        rw [decide_eq_true (show V.int u = V.int r by rw [e])]
        exact iteT hq
      · rw [decide_eq_false e, Bool.false_or] at hq
        rw [decide_eq_false (show ¬ V.int u = V.int r from fun z => e (V.int.inj z))]
        have h2 : decide ((((dn.map V.int ++ [V.int b]) ++ [V.int u]).length : Int) > 1) = true := decide_eq_true (by rw [hL]; omega)
        refine iteF ⟨.ref a, rfl, a, _, rfl, .inl hS, _, _, rfl, rfl, _, rfl, ?_⟩
        rw [h2]
        exact iteT ⟨.int u, rfl, .ref a, rfl, 2, rfl, a, _, -2, .int b, rfl, rfl, hS, atI_last2 _ _ _, .int r, rfl, u, b, r, rfl, hq⟩
theorem ok_TPl {f fL : Addr} {fd fdL : FuncData} {k : Nat} (F : Fun K "turning_points" "turning_points" sTP f fd) (GL : FnOk P w K mg base CX0 (k + 2) fL fdL ["points", "reading"] (spLO K)) (gL : mg "is_left_out" = some (.ref fL)) (kL : PySem.W.keepIn K (.ref fL) = true) (bL : Binds K fdL ["points", "reading"] [])
    (mt : mg "tuple" = none) : FnOk P w K mg base CX0 (k + 3) f fd ["load"] (spTPl K) := by
  refine F.ok scTP (fun vs H Q E h => ?_) (fun cdv A outer s H vs Q E hr h => ?_)
  · obtain ⟨a, ns, rfl, _⟩ := h
    rfl
  · obtain ⟨a, ns, rfl, hS, hlen, hq⟩ := h
    refine ⟨_, pss_cons (ps_set (i := 1) scTP.nd rfl (.inl rfl) (pe_lst pa_nil))
      (pss_cons (ps_for PassesOwn.never rfl (pi_list (pv 0)) (pg_name (i := 2) scTP.nd rfl (.inl rfl))
        (pss_cons (ps_if (pt_val (pe_call GL hr (by rfl) gL kL bL .nil pass0 (pa_cons (pv 1) (pa_cons (pv 2) pa_nil))))
              (pss_one (ps_expr (pe_bm0 PySem.F.plainAttrs_list PySem.F.slot_list_pop PySem.F.type_list_pop mt_pop (pv 1)))) pss_nil)
            (pss_one (ps_expr (pe_bm PySem.F.plainAttrs_list PySem.F.slot_list_append PySem.F.type_list_append mt_append (pv 1) (pa_cons (pv 2) pa_nil))))))
      (pss_one (ps_ret (pe_callTy call_tuple_of (by rfl) mt (by decide +kernel) (pa_cons (pv 1) pa_nil))))), ?_⟩
    refine ⟨Nat.zero_le _, fun D nD => ?_⟩
    have sm : ∀ o, Same H (upd H D o) := fun o => same_new nD
    refine ⟨.ref a, rfl, a, rfl, ⟨_, (sm _).seq hS⟩, for_list (K := K) (a := a) (xs := ns.map V.int)
      (fun i σ H' => ∃ (r2 : Option V), σ = [some (.ref a), some (.ref D), r2] ∧ H' = upd H D (.lst ((tp (ns.take i)).map V.int)) ∧ (tp (ns.take i)).length ≤ i) ?_ ?_ ?_ ?_⟩
    · exact ⟨none, rfl, rfl, Nat.le_refl _⟩
    · rintro i σ H' _ ⟨r2, rfl, rfl, _⟩
      exact (sm _).seq hS
    · rintro i x σ H' hx ⟨r2, rfl, rfl, hpl⟩
      obtain ⟨r, hr2, rfl⟩ := int_at hx
      have hin : i < ns.length := (List.getElem?_eq_some_iff.mp hr2).1
      rw [tp_take hr2]
      generalize tp (ns.take i) = ps at hpl ⊢
      have hpl2 := Nat.le_trans (push_len ps r) (Nat.succ_le_succ hpl)
      refine ⟨.ref D, rfl, .int r, rfl, D, ps, r, rfl, SqL.of upd_same, _, rfl, ?_⟩
      have hp := push_lo ps r
      cases hl : lo ps r with
      | true =>
        rw [hl, if_pos rfl] at hp
        have hne : ps ≠ [] := fun z => by rw [z] at hl; cases hl
        obtain ⟨ps', u, rfl⟩ : ∃ ps' u, ps = ps' ++ [u] := by
          rcases List.eq_nil_or_concat ps with h | ⟨m1, d, h⟩
          · exact absurd h hne
          · exact ⟨m1, d, by rw [h]; simp⟩
        rw [List.dropLast_concat] at hp
        have em : (ps' ++ [u]).map V.int = ps'.map V.int ++ [V.int u] := by simp
        have hl' : (ps' ++ [u]).length = ps'.length + 1 := by simp
        refine iteT ⟨.ref D, rfl, .inl ⟨rfl, _, SqL.of upd_same⟩, D, ps'.map V.int ++ [V.int u], .int u, rfl, rfl, by rw [upd_same, em], by simp, ?_⟩
        refine ⟨.ref D, rfl, .inl ⟨rfl, _, SqL.of upd_same⟩, .int r, rfl, D, ps'.map V.int, _, rfl, rfl, by rw [upd_same, List.dropLast_concat], by rw [List.length_map]; exact small3000 (by omega), _, rfl, ?_, hpl2⟩
        rw [upd_upd, upd_upd, hp, List.map_append]
        rfl
      | false =>
        rw [hl, if_neg (by decide)] at hp
        refine iteF ?_
        refine ⟨.ref D, rfl, .inl ⟨rfl, _, SqL.of upd_same⟩, .int r, rfl, D, _, _, rfl, rfl, upd_same, by rw [List.length_map]; exact small3000 (by omega), _, rfl, ?_, hpl2⟩
        rw [upd_upd, hp, List.map_append]
        rfl
    · rintro σ H' ⟨r2, rfl, rfl, hpl⟩
      have et : ns.take (ns.map V.int).length = ns := by rw [List.length_map]; exact List.take_length
      rw [et]
      exact ⟨.ref D, rfl, D, _, rfl, .inl ⟨SqL.of upd_same, fun l nl => hq _ l ((sm _).trans (same_new nl)) ((sm _).free nl) upd_same⟩⟩
theorem ok_TPt {f fL : Addr} {fd fdL : FuncData} {k : Nat} (F : Fun K "turning_points" "turning_points" sTP f fd) (GL : FnOk P w K mg base CX0 (k + 2) fL fdL ["points", "reading"] (spLO K)) (gL : mg "is_left_out" = some (.ref fL)) (kL : PySem.W.keepIn K (.ref fL) = true) (bL : Binds K fdL ["points", "reading"] [])
    (mt : mg "tuple" = none) : FnOk P w K mg base CX0 (k + 3) f fd ["load"] (spTPt K) := by
  refine F.ok scTP (fun vs H Q E h => ?_) (fun cdv A outer s H vs Q E hr h => ?_)
  · obtain ⟨a, ns, rfl, _⟩ := h
    rfl
  · obtain ⟨a, ns, rfl, hS, hlen, hq⟩ := h
    refine ⟨_, pss_cons (ps_set (i := 1) scTP.nd rfl (.inl rfl) (pe_lst pa_nil))
      (pss_cons (ps_for PassesOwn.never rfl (pi_tup (pv 0)) (pg_name (i := 2) scTP.nd rfl (.inl rfl))
        (pss_cons (ps_if (pt_val (pe_call GL hr (by rfl) gL kL bL .nil pass0 (pa_cons (pv 1) (pa_cons (pv 2) pa_nil))))
              (pss_one (ps_expr (pe_bm0 PySem.F.plainAttrs_list PySem.F.slot_list_pop PySem.F.type_list_pop mt_pop (pv 1)))) pss_nil)
            (pss_one (ps_expr (pe_bm PySem.F.plainAttrs_list PySem.F.slot_list_append PySem.F.type_list_append mt_append (pv 1) (pa_cons (pv 2) pa_nil))))))
      (pss_one (ps_ret (pe_callTy call_tuple_of (by rfl) mt (by decide +kernel) (pa_cons (pv 1) pa_nil))))), ?_⟩
    refine ⟨Nat.zero_le _, fun D nD => ?_⟩
    have sm : ∀ o, Same H (upd H D o) := fun o => same_new nD
    refine ⟨.ref a, rfl, a, rfl, ⟨_, SqT_same (sm _) hS⟩, for_tup (K := K) (a := a) (xs := ns.map V.int)
      (fun i σ H' => ∃ (r2 : Option V), σ = [some (.ref a), some (.ref D), r2] ∧ H' = upd H D (.lst ((tp (ns.take i)).map V.int)) ∧ (tp (ns.take i)).length ≤ i) ?_ ?_ ?_ ?_⟩
    · exact ⟨none, rfl, rfl, Nat.le_refl _⟩
    · rintro i σ H' _ ⟨r2, rfl, rfl, _⟩
      exact SqT_same (sm _) hS
    · rintro i x σ H' hx ⟨r2, rfl, rfl, hpl⟩
      obtain ⟨r, hr2, rfl⟩ := int_at hx
      have hin : i < ns.length := (List.getElem?_eq_some_iff.mp hr2).1
      rw [tp_take hr2]
      generalize tp (ns.take i) = ps at hpl ⊢
      have hpl2 := Nat.le_trans (push_len ps r) (Nat.succ_le_succ hpl)
      refine ⟨.ref D, rfl, .int r, rfl, D, ps, r, rfl, SqL.of upd_same, _, rfl, ?_⟩
      have hp := push_lo ps r
      cases hl : lo ps r with
      | true =>
        rw [hl, if_pos rfl] at hp
        have hne : ps ≠ [] := fun z => by rw [z] at hl; cases hl
        obtain ⟨ps', u, rfl⟩ : ∃ ps' u, ps = ps' ++ [u] := by
          rcases List.eq_nil_or_concat ps with h | ⟨m1, d, h⟩
          · exact absurd h hne
          · exact ⟨m1, d, by rw [h]; simp⟩
        rw [List.dropLast_concat] at hp
        have em : (ps' ++ [u]).map V.int = ps'.map V.int ++ [V.int u] := by simp
        have hl' : (ps' ++ [u]).length = ps'.length + 1 := by simp
        refine iteT ⟨.ref D, rfl, .inl ⟨rfl, _, SqL.of upd_same⟩, D, ps'.map V.int ++ [V.int u], .int u, rfl, rfl, by rw [upd_same, em], by simp, ?_⟩
        refine ⟨.ref D, rfl, .inl ⟨rfl, _, SqL.of upd_same⟩, .int r, rfl, D, ps'.map V.int, _, rfl, rfl, by rw [upd_same, List.dropLast_concat], by rw [List.length_map]; exact small3000 (by omega), _, rfl, ?_, hpl2⟩
        rw [upd_upd, upd_upd, hp, List.map_append]
        rfl
      | false =>
        rw [hl, if_neg (by decide)] at hp
        refine iteF ?_
        refine ⟨.ref D, rfl, .inl ⟨rfl, _, SqL.of upd_same⟩, .int r, rfl, D, _, _, rfl, rfl, upd_same, by rw [List.length_map]; exact small3000 (by omega), _, rfl, ?_, hpl2⟩
        rw [upd_upd, hp, List.map_append]
        rfl
    · rintro σ H' ⟨r2, rfl, rfl, hpl⟩
      have et : ns.take (ns.map V.int).length = ns := by rw [List.length_map]; exact List.take_length
      rw [et]
      exact ⟨.ref D, rfl, D, _, rfl, .inl ⟨SqL.of upd_same, fun l nl => hq _ l ((sm _).trans (same_new nl)) ((sm _).free nl) upd_same⟩⟩
end
end PB

/-! swings; the law's own points -/
namespace PC
open PySem PySem.Spec PyProof.Rows L2 KA PH PM PA PB RM RS
theorem cut_to (xs : List V) (k : Nat) : cutV xs none (some ((k : Nat) : Int)) = xs.take k := by
  unfold cutV
  rw [HT.sIx_none, HT.sIx_nat]
  simp only [Nat.sub_zero, List.drop_zero]
  rcases Nat.le_total k xs.length with h | h
  · rw [Nat.min_eq_left h]
  · rw [Nat.min_eq_right h, List.take_length, List.take_of_length_le h]
theorem cut_from (xs : List V) (k : Nat) : cutV xs (some ((k : Nat) : Int)) none = xs.drop k := by
  unfold cutV
  rw [HT.sIx_nat, HT.sIx_none]
  rcases Nat.le_total k xs.length with h | h
  · rw [Nat.min_eq_left h, List.take_of_length_le (by rw [List.length_drop]; omega)]
  · rw [Nat.min_eq_right h, Nat.sub_self, List.drop_eq_nil_of_le h]
    rfl
/-- a list of i pairs stands at R, what was tracked stands -/
def Prs (H0 : Hp) (R : Addr) (ps : List Int) (i : Nat) (H : Hp) : Prop := Same H0 H ∧ ∃ xs, H R = some (.lst xs) ∧ PairsAt H xs ((sw ps).take i)
theorem Prs.start {H0 : Hp} {R : Addr} (ps : List Int) (n : H0 R = none) : Prs H0 R ps 0 (upd H0 R (.lst [])) := ⟨same_new n, [], upd_same, trivial⟩
theorem Prs.turn {H0 H1 H2 : Hp} {R q : Addr} {ps : List Int} {i : Nat} {x y : Int} (g : Prs H0 R ps i H1) (n : H0 R = none) (s : Same H1 H2) (nq : H2 q = none) (hx : ps[i]? = some x) (hy : ps[i + 1]? = some y) (hl : ps.length ≤ 2500) :
    ∃ acc, (upd H2 q (.tup [.int (rg x y).1, .int (rg x y).2])) R = some (.lst acc) ∧ acc.length < sizeLine ∧ Prs H0 R ps (i + 1) (upd (upd H2 q (.tup [.int (rg x y).1, .int (rg x y).2])) R (.lst (acc ++ [.ref q]))) := by
  obtain ⟨s0, xs, e, pa⟩ := g
  have e2 := s _ _ e
  have nRq : R ≠ q := ne_of_none e2 nq
  have sq : Same H2 (upd H2 q (.tup [.int (rg x y).1, .int (rg x y).2])) := same_new nq
  have hi : i < ps.length := (List.getElem?_eq_some_iff.mp hx).1
  have hxl : xs.length ≤ i := by rw [pa.length, List.length_take]; omega
  refine ⟨xs, sq _ _ e2, small3000 (by omega), same_again n ((s0.trans s).trans sq), xs ++ [.ref q], upd_same, ?_⟩
  rw [sw_take ps i x y hx hy]
  have other : ∀ {ys : List V} {rs : List (Int × Int)}, PairsAt H1 ys rs → PairsAt (upd (upd H2 q (.tup [.int (rg x y).1, .int (rg x y).2])) R (.lst (xs ++ [.ref q]))) ys rs := by
    intro ys
    induction ys with
    | nil => intro rs h; cases rs with
      | nil => trivial
      | cons _ _ => exact h.elim
    | cons z zs ih =>
      intro rs h
      cases rs with
      | nil => exact h.elim
      | cons r rs =>
        obtain ⟨⟨p, h1, h2⟩, h3⟩ := h
        have h4 := sq _ _ (s _ _ h2)
        have npR : p ≠ R := fun z => by rw [z, e] at h2; cases h2
        exact ⟨⟨p, h1, by rw [upd_ne npR]; exact h4⟩, ih h3⟩
  refine PairsAt.append (other pa) ⟨⟨q, rfl, ?_⟩, trivial⟩
  rw [upd_ne nRq.symm, upd_same]
theorem Prs.all {H0 H : Hp} {R : Addr} {ps : List Int} {i : Nat} (g : Prs H0 R ps i H) (h : ps.length - 1 ≤ i) : ∃ xs, H R = some (.lst xs) ∧ PairsAt H xs (sw ps) := by
  obtain ⟨_, xs, e, pa⟩ := g
  rw [List.take_of_length_le (by rw [sw_len]; exact h)] at pa
  exact ⟨xs, e, pa⟩
section
variable {P : Program} {w : World} {K : PySem.W.Frag} {mg : Str → Option Value} {base : Heap}
def spSw (K : PySem.W.Frag) : Sp := fun vs H Q _ => ∃ (a : Addr) (ns : List Int), vs = [.ref a] ∧ Sq K H a (ns.map V.int) ∧ ns.length ≤ 2500 ∧ ∀ H' p xs, Same H H' → H p = none → H' p = some (.lst xs) → PairsAt H' xs (sw (tp ns)) → Q (.ref p) H'
theorem ok_sw {f fP fR : Addr} {fd fdP fdR : FuncData} {k : Nat} (F : Fun K "swings" "swings" sSw f fd) (GP : FnOk P w K mg base CX0 (k + 2) fP fdP ["load"] (spTP K)) (gP : mg "turning_points" = some (.ref fP)) (kP : PySem.W.keepIn K (.ref fP) = true) (bP : Binds K fdP ["load"] [])
    (GR : FnOk P w K mg base CX0 (k + 1) fR fdR ["one", "other"] spRng) (gR : mg "range_of" = some (.ref fR)) (kR : PySem.W.keepIn K (.ref fR) = true) (bR : Binds K fdR ["one", "other"] []) (mz : mg "zip" = none) : FnOk P w K mg base CX0 (k + 3) f fd ["load"] (spSw K) := by
  refine F.ok scSw (fun vs H Q E h => ?_) (fun cdv A outer s H vs Q E hr h => ?_)
  · obtain ⟨a, ns, rfl, _⟩ := h
    rfl
  · obtain ⟨a, ns, rfl, hS, hlen, hq⟩ := h
    have h1 := hr.mono (Nat.le_succ (k + 1))
    refine ⟨_, pss_cons (ps_set (i := 1) scSw.nd rfl (.inl rfl) (pe_call GP hr (by rfl) gP kP bP .nil pass0 (pa_cons (pv 0) pa_nil)))
      (pss_one (ps_ret (pe_lc (own := [("one", 2), ("other", 3)]) (g := gTup K 2 (gCons (gName 2) (gCons (gName 3) gNil))) rfl scSw.nd
        (RZ.pi_zipA (by rfl) mz (pa_cons (pv 1) (pa_cons (pe_slice sl_tupA (pv 1) (po_some pe_int) po_none) pa_nil)))
        (blkOk_by (own := [("one", 2), ("other", 3)]) (N := ["load", "points", "one", "other"]) (sc := defScope sSw) (by decide +kernel))
        (fun _ _ _ _ _ => pg_tup rfl (pgs_cons (pg_name (i := 2) scSw.nd rfl (Or.inl rfl) (Or.inr rfl)) (pgs_cons (pg_name (i := 3) scSw.nd rfl (Or.inl rfl) (Or.inr rfl)) pgs_nil)))
        (fun _ _ _ _ _ => pts_nil) (fun _ _ _ _ _ => pe_call GR h1 (by rfl) gR kR bR .nil pass0 (pa_cons (pv 2) (pa_cons (pv 3) pa_nil)))))), ?_⟩
    refine ⟨.ref a, rfl, ?_⟩
    have hps : (tp ns).length ≤ 2500 := Nat.le_trans (tp_len ns) hlen
    rcases hS with hS | hS
    · refine .inl ⟨a, ns, rfl, hS, hlen, fun H1 t s1 nt et => ?_⟩
      refine ⟨.ref t, rfl, .ref t, rfl, 1, rfl, t, (tp ns).map V.int, rfl, SqT.of et, fun hw => ?_, fun hn c nc => ?_⟩
      · have e0 : (tp ns).map V.int = [] := by
          have z := hw.1
          rw [show (some (1 : Int)) = some ((1 : Nat) : Int) from rfl, HT.sIx_nat] at z
          exact List.length_eq_zero_iff.mp (by omega)
        have hc : SqT K H1 t (((tp ns).map V.int).drop 1) := by
          rw [e0]
          rw [e0] at et
          exact SqT.of et
        have s2 := Same.refl H1
        refine ⟨t, t, (tp ns).map V.int, ((tp ns).map V.int).drop 1, rfl, .inr ⟨SqT.of (s2 _ _ et), hc, fun R nR => lc_it (walk_tups (K := K) (a := t) (b := t) (xs := (tp ns).map V.int) (ys := ((tp ns).map V.int).drop 1) (n := (tp ns).length - 1) (by rw [List.length_drop, List.length_map]; omega))
          (fun i H' => Prs H1 R (tp ns) i H') (Prs.start _ nR) (fun i H' _ g => ⟨SqT.of (g.1 _ _ (s2 _ _ et)), SqT_same g.1 hc⟩) ?_ ?_⟩⟩
        · rintro i x H3 H4 hi g ⟨T, u, v, rfl, nT, rfl, g1, g2⟩
          have g1 : ((tp ns).map V.int)[i]? = some u := g1
          have g2 : (((tp ns).map V.int).drop 1)[i]? = some v := g2
          rw [List.getElem?_drop, Nat.add_comm 1 i] at g2
          obtain ⟨x, hx, rfl⟩ := int_at g1
          obtain ⟨y, hy, rfl⟩ := int_at g2
          refine ⟨T, [.int x, .int y], rfl, SqT.of upd_same, rfl, .int x, [.int y], rfl, .int y, [], rfl, rfl, rfl, ?_⟩
          refine iteT (B := True) ?_
          exact ⟨.int x, rfl, .int y, rfl, x, y, rfl, fun q nq => g.turn nR (same_new nT) nq hx hy hps⟩
        · intro H' g
          obtain ⟨xs, e, pa⟩ := g.all (Nat.le_refl _)
          exact hq H' R xs ((s1.trans s2).trans g.1) ((s1.trans s2).free nR) e pa
      · have hc : SqT K (upd H1 c (.tup (cutV ((tp ns).map V.int) (some 1) none))) c (((tp ns).map V.int).drop 1) := SqT.of (by rw [upd_same, show (some (1 : Int)) = some ((1 : Nat) : Int) from rfl, cut_from])
        have s2 : Same H1 (upd H1 c (.tup (cutV ((tp ns).map V.int) (some 1) none))) := same_new nc
        refine ⟨t, c, (tp ns).map V.int, ((tp ns).map V.int).drop 1, rfl, .inr ⟨SqT.of (s2 _ _ et), hc, fun R nR => lc_it (walk_tups (K := K) (a := t) (b := c) (xs := (tp ns).map V.int) (ys := ((tp ns).map V.int).drop 1) (n := (tp ns).length - 1) (by rw [List.length_drop, List.length_map]; omega))
          (fun i H' => Prs _ R (tp ns) i H') (Prs.start _ nR) (fun i H' _ g => ⟨SqT.of (g.1 _ _ (s2 _ _ et)), SqT_same g.1 hc⟩) ?_ ?_⟩⟩
        · rintro i x H3 H4 hi g ⟨T, u, v, rfl, nT, rfl, g1, g2⟩
          have g1 : ((tp ns).map V.int)[i]? = some u := g1
          have g2 : (((tp ns).map V.int).drop 1)[i]? = some v := g2
          rw [List.getElem?_drop, Nat.add_comm 1 i] at g2
          obtain ⟨x, hx, rfl⟩ := int_at g1
          obtain ⟨y, hy, rfl⟩ := int_at g2
          refine ⟨T, [.int x, .int y], rfl, SqT.of upd_same, rfl, .int x, [.int y], rfl, .int y, [], rfl, rfl, rfl, ?_⟩
          refine iteT (B := True) ?_
          exact ⟨.int x, rfl, .int y, rfl, x, y, rfl, fun q nq => g.turn nR (same_new nT) nq hx hy hps⟩
        · intro H' g
          obtain ⟨xs, e, pa⟩ := g.all (Nat.le_refl _)
          exact hq H' R xs ((s1.trans s2).trans g.1) ((s1.trans s2).free nR) e pa
    · refine .inr ⟨a, ns, rfl, hS, hlen, fun H1 t s1 nt et => ?_⟩
      refine ⟨.ref t, rfl, .ref t, rfl, 1, rfl, t, (tp ns).map V.int, rfl, SqT.of et, fun hw => ?_, fun hn c nc => ?_⟩
      · have e0 : (tp ns).map V.int = [] := by
          have z := hw.1
          rw [show (some (1 : Int)) = some ((1 : Nat) : Int) from rfl, HT.sIx_nat] at z
          exact List.length_eq_zero_iff.mp (by omega)
        have hc : SqT K H1 t (((tp ns).map V.int).drop 1) := by
          rw [e0]
          rw [e0] at et
          exact SqT.of et
        have s2 := Same.refl H1
        refine ⟨t, t, (tp ns).map V.int, ((tp ns).map V.int).drop 1, rfl, .inr ⟨SqT.of (s2 _ _ et), hc, fun R nR => lc_it (walk_tups (K := K) (a := t) (b := t) (xs := (tp ns).map V.int) (ys := ((tp ns).map V.int).drop 1) (n := (tp ns).length - 1) (by rw [List.length_drop, List.length_map]; omega))
          (fun i H' => Prs H1 R (tp ns) i H') (Prs.start _ nR) (fun i H' _ g => ⟨SqT.of (g.1 _ _ (s2 _ _ et)), SqT_same g.1 hc⟩) ?_ ?_⟩⟩
        · rintro i x H3 H4 hi g ⟨T, u, v, rfl, nT, rfl, g1, g2⟩
          have g1 : ((tp ns).map V.int)[i]? = some u := g1
          have g2 : (((tp ns).map V.int).drop 1)[i]? = some v := g2
          rw [List.getElem?_drop, Nat.add_comm 1 i] at g2
          obtain ⟨x, hx, rfl⟩ := int_at g1
          obtain ⟨y, hy, rfl⟩ := int_at g2
          refine ⟨T, [.int x, .int y], rfl, SqT.of upd_same, rfl, .int x, [.int y], rfl, .int y, [], rfl, rfl, rfl, ?_⟩
          refine iteT (B := True) ?_
          exact ⟨.int x, rfl, .int y, rfl, x, y, rfl, fun q nq => g.turn nR (same_new nT) nq hx hy hps⟩
        · intro H' g
          obtain ⟨xs, e, pa⟩ := g.all (Nat.le_refl _)
          exact hq H' R xs ((s1.trans s2).trans g.1) ((s1.trans s2).free nR) e pa
      · have hc : SqT K (upd H1 c (.tup (cutV ((tp ns).map V.int) (some 1) none))) c (((tp ns).map V.int).drop 1) := SqT.of (by rw [upd_same, show (some (1 : Int)) = some ((1 : Nat) : Int) from rfl, cut_from])
        have s2 : Same H1 (upd H1 c (.tup (cutV ((tp ns).map V.int) (some 1) none))) := same_new nc
        refine ⟨t, c, (tp ns).map V.int, ((tp ns).map V.int).drop 1, rfl, .inr ⟨SqT.of (s2 _ _ et), hc, fun R nR => lc_it (walk_tups (K := K) (a := t) (b := c) (xs := (tp ns).map V.int) (ys := ((tp ns).map V.int).drop 1) (n := (tp ns).length - 1) (by rw [List.length_drop, List.length_map]; omega))
          (fun i H' => Prs _ R (tp ns) i H') (Prs.start _ nR) (fun i H' _ g => ⟨SqT.of (g.1 _ _ (s2 _ _ et)), SqT_same g.1 hc⟩) ?_ ?_⟩⟩
        · rintro i x H3 H4 hi g ⟨T, u, v, rfl, nT, rfl, g1, g2⟩
          have g1 : ((tp ns).map V.int)[i]? = some u := g1
          have g2 : (((tp ns).map V.int).drop 1)[i]? = some v := g2
          rw [List.getElem?_drop, Nat.add_comm 1 i] at g2
          obtain ⟨x, hx, rfl⟩ := int_at g1
          obtain ⟨y, hy, rfl⟩ := int_at g2
          refine ⟨T, [.int x, .int y], rfl, SqT.of upd_same, rfl, .int x, [.int y], rfl, .int y, [], rfl, rfl, rfl, ?_⟩
          refine iteT (B := True) ?_
          exact ⟨.int x, rfl, .int y, rfl, x, y, rfl, fun q nq => g.turn nR (same_new nT) nq hx hy hps⟩
        · intro H' g
          obtain ⟨xs, e, pa⟩ := g.all (Nat.le_refl _)
          exact hq H' R xs ((s1.trans s2).trans g.1) ((s1.trans s2).free nR) e pa
end
end PC

/-! places, points taken out -/
namespace QE
open PySem PySem.Spec PyProof.Rows L2 KA PH PM PA PB PC RM RN RS
abbrev sMT : Stmt := topS 9
abbrev sPB : Stmt := topS 10
abbrev sCo : Stmt := topS 11
abbrev sClass : Stmt := topS 12
abbrev sLaw : Stmt := topS 40
theorem scMT : FnScope ["points", "place", "size"] ["points", "place"] (defScope sMT) := ⟨rfl, rfl, rfl, by decide +kernel, rfl, by decide +kernel, by decide +kernel⟩
theorem Sq.ix {K : PySem.W.Frag} {H : Hp} {a : Addr} {xs : List V} {z : Int} {v : V} {Q : VK} (h : Sq K H a xs) (e : atI xs z = some v) (q : Q v H) : rIx K (.ref a) (.int z) H Q := by
  rcases h with h | h
  · exact .inl ⟨a, xs, z, v, rfl, rfl, h, e, q⟩
  · exact .inr (.inl ⟨a, xs, z, v, rfl, rfl, h, e, q⟩)
section
variable {P : Program} {w : World} {K : PySem.W.Frag} {mg : Str → Option Value} {base : Heap}
def spMT (K : PySem.W.Frag) : Sp := fun vs H Q _ => ∃ (a : Addr) (ps : List Int) (i : Nat) (z x y t u : Int), vs = [.ref a, .int z] ∧ z = (i : Int) + 1 ∧ Sq K H a (ps.map V.int) ∧ ZZ ps ∧ ps[i]? = some x ∧ ps[i + 1]? = some y ∧ ps[i + 2]? = some t ∧ ps[i + 3]? = some u ∧
  ∀ H', Same H H' → Q (.bl (takenAt ps i)) H'
theorem abs_i (i : Int) : (if i < 0 then -i else i) = (i.natAbs : Int) := by split <;> omega
theorem ok_MT {f : Addr} {fd : FuncData} {k : Nat} (F : Fun K "_may_be_taken" "_may_be_taken" sMT f fd) (ma : mg "abs" = none) : FnOk P w K mg base CX0 (k + 1) f fd ["points", "place"] (spMT K) := by
  refine F.ok scMT (fun vs H Q E h => ?_) (fun cdv A outer s H vs Q E hr h => ?_)
  · obtain ⟨a, ps, i, z, x, y, t, u, rfl, _⟩ := h
    rfl
  · obtain ⟨a, ps, i, z, x, y, t, u, rfl, rfl, hS, zz, e0, e1, e2, e3, hq⟩ := h
    refine ⟨_, pss_cons (ps_set (i := 2) scMT.nd rfl (.inl rfl) (pe_callB call_abs (by rfl) ma (by decide +kernel) (pa_cons (pe_op op_sub (pe_ix ix_seq (pv 0) (pe_op op_add (pv 1) pe_int) (fun _ _ => rfl)) (pe_ix ix_seq (pv 0) (pv 1) (fun _ _ => rfl))) pa_nil)))
      (pss_one (ps_ret (pe_and (pe_cmpR op_ge (pe_callB call_abs (by rfl) ma (by decide +kernel) (pa_cons (pe_op op_sub (pe_ix ix_seq (pv 0) (pv 1) (fun _ _ => rfl)) (pe_ix ix_seq (pv 0) (pe_op op_sub (pv 1) pe_int) (fun _ _ => rfl))) pa_nil)) (pv 2) (nomark _))
        (pe_one (pe_cmpR op_ge (pe_callB call_abs (by rfl) ma (by decide +kernel) (pa_cons (pe_op op_sub (pe_ix ix_seq (pv 0) (pe_op op_add (pv 1) pe_int) (fun _ _ => rfl)) (pe_ix ix_seq (pv 0) (pe_op op_add (pv 1) pe_int) (fun _ _ => rfl))) pa_nil)) (pv 2) (nomark _)))))), ?_⟩
    have a0 : atI (ps.map V.int) ((i : Int) + 1 - 1) = some (.int x) := at_of (j := i) (by omega) (at_int e0)
    have a1 : atI (ps.map V.int) ((i : Int) + 1) = some (.int y) := at_of (j := i + 1) (by omega) (at_int e1)
    have a2 : atI (ps.map V.int) ((i : Int) + 1 + 1) = some (.int t) := at_of (j := i + 2) (by omega) (at_int e2)
    have a3 : atI (ps.map V.int) ((i : Int) + 1 + 2) = some (.int u) := at_of (j := i + 3) (by omega) (at_int e3)
    have hq2 := hq H (Same.refl H)
    rw [taken_get e0 e1 e2 e3] at hq2
    have eT : decide (Taken x y t u) = (decide (((y - x).natAbs : Int) ≥ ((t - y).natAbs : Int)) && decide (((u - t).natAbs : Int) ≥ ((t - y).natAbs : Int))) := by
      rw [← Bool.decide_and, decide_eq_decide]
      exact taken_abs (zz_at zz e0 e1 e2 e3)
    rw [eT] at hq2
    refine ⟨.ref a, rfl, .int ((i : Int) + 1), rfl, _, 1, rfl, rfl, Sq.ix hS a2 ⟨.ref a, rfl, .int ((i : Int) + 1), rfl, Sq.ix hS a1 ⟨t, y, rfl, rfl, _, rfl, ?_⟩⟩⟩
    refine ⟨.ref a, rfl, .int ((i : Int) + 1), rfl, Sq.ix hS a1 ⟨.ref a, rfl, .int ((i : Int) + 1), rfl, _, 1, rfl, rfl, Sq.ix hS a0 ⟨y, x, rfl, rfl, _, rfl, ?_⟩⟩⟩
    refine ⟨_, rfl, _, _, rfl, rfl, _, rfl, ?_⟩
    rw [abs_i, abs_i]
    cases h1 : decide (((y - x).natAbs : Int) ≥ ((t - y).natAbs : Int)) with
    | true =>
      rw [h1, Bool.true_and] at hq2
      refine iteT ⟨.ref a, rfl, .int ((i : Int) + 1), rfl, _, 2, rfl, rfl, Sq.ix hS a3 ⟨.ref a, rfl, .int ((i : Int) + 1), rfl, _, 1, rfl, rfl, Sq.ix hS a2 ⟨u, t, rfl, rfl, _, rfl, ?_⟩⟩⟩
      refine ⟨_, rfl, _, _, rfl, rfl, ?_⟩
      rw [abs_i]
      exact hq2
    | false =>
      rw [h1, Bool.false_and] at hq2
      exact iteF hq2
def spRem (K : PySem.W.Frag) : Sp := fun vs H Q _ => ∃ (a : Addr) (ps : List Int), vs = [.ref a] ∧ Sq K H a (ps.map V.int) ∧ ZZ ps ∧ ps.length ≤ 2500 ∧ ∀ H' p, Same H H' → H p = none → H' p = some (.tup ((plc ps).map V.int)) → Q (.ref p) H'
end
end QE

/-! take; the stack -/
namespace QF
open PySem PySem.Spec PyProof.Rows L2 KA PH PM PA PB PC RM RN RS QE
theorem scPB : FnScope ["rest", "reading", "cycles"] ["rest", "reading"] (defScope sPB) := ⟨rfl, rfl, rfl, by decide +kernel, rfl, by decide +kernel, by decide +kernel⟩
theorem scCo : FnScope ["load", "cycles", "rest", "reading"] ["load"] (defScope sCo) := ⟨rfl, rfl, rfl, by decide +kernel, rfl, by decide +kernel, by decide +kernel⟩
theorem taken_all {ps : List Int} {i : Nat} (h : takenAt ps i = true) : ∃ x y t u, ps[i]? = some x ∧ ps[i + 1]? = some y ∧ ps[i + 2]? = some t ∧ ps[i + 3]? = some u := by
  have := taken_lt h
  exact ⟨_, _, _, _, List.getElem?_eq_getElem (by omega), List.getElem?_eq_getElem (by omega), List.getElem?_eq_getElem (by omega), List.getElem?_eq_getElem (by omega)⟩
section
variable {P : Program} {w : World} {K : PySem.W.Frag} {mg : Str → Option Value} {base : Heap}
def spIR (K : PySem.W.Frag) : Sp := fun vs H Q _ => ∃ (a : Addr) (ps : List Int) (i : Nat) (z : Int), vs = [.ref a, .int z] ∧ z = (i : Int) + 1 ∧ Sq K H a (ps.map V.int) ∧ ZZ ps ∧ takenAt ps i = true ∧ ∀ H', Same H H' → Q (.bl true) H'
def spNum : Sp := fun vs H Q _ => ∃ z : Int, vs = [.int z] ∧ Q (.bl true) H
end
end QF

/-! the stack -/
namespace QG
open PySem PySem.Spec PyProof.Rows L2 KA PH PM PA PB PC RM RN RS KD QE QF
theorem atI_last3 (xs : List V) (u v w : V) : atI (xs ++ [u, v, w]) (-3) = some u := by
  have hl : (xs ++ [u, v, w]).length = xs.length + 3 := by simp
  have h : ixN (xs ++ [u, v, w]).length (-3) = some xs.length := by
    unfold ixN
    rw [hl, if_neg (by decide), if_pos (by omega)]
    congr 1
    omega
  unfold atI
  rw [h]
  show (xs ++ [u, v, w])[xs.length]? = some u
  simp
theorem atI_last2' (xs : List V) (u v w : V) : atI (xs ++ [u, v, w]) (-2) = some v := by
  have := atI_last2 (xs ++ [u]) v w
  simpa using this
theorem last3 : ∀ {m : List Int}, 3 ≤ m.length → ∃ pre b c d, m = pre ++ [b, c, d] := by
  intro m h
  rcases List.eq_nil_or_concat m with rfl | ⟨m1, d, rfl⟩
  · simp at h
  · rcases List.eq_nil_or_concat m1 with rfl | ⟨m2, c, rfl⟩
    · simp at h
    · rcases List.eq_nil_or_concat m2 with rfl | ⟨m3, b, rfl⟩
      · simp at h
      · exact ⟨m3, b, c, d, by simp⟩
theorem pairs_upd {H : Hp} {R : Addr} {l l' : List V} (e : H R = some (.lst l)) : ∀ {xs : List V} {rs : List (Int × Int)}, PairsAt H xs rs → PairsAt (upd H R (.lst l')) xs rs
  | [], [], _ => trivial
  | x :: xs, r :: rs, ⟨⟨p, h1, h2⟩, h3⟩ => ⟨⟨p, h1, by rw [upd_ne (fun z => by rw [z, e] at h2; cases h2)]; exact h2⟩, pairs_upd e h3⟩
  | [], _ :: _, h => h.elim
  | _ :: _, [], h => h.elim
section
variable {P : Program} {w : World} {K : PySem.W.Frag} {mg : Str → Option Value} {base : Heap}
def spTPq (K : PySem.W.Frag) : Sp := fun vs H Q _ => ∃ (a : Addr) (ns : List Int), vs = [.ref a] ∧ Sq K H a (ns.map V.int) ∧ ns.length ≤ 2500 ∧ ∀ H' p, Same H H' → H p = none → H' p = some (.tup ((tp ns).map V.int)) → Q (.ref p) H'
theorem tpq_of {k : Nat} {f : Addr} {fd : FuncData} (G : FnOk P w K mg base CX0 k f fd ["load"] (spTP K)) : FnOk P w K mg base CX0 k f fd ["load"] (spTPq K) :=
  G.imp fun vs H Q E ⟨a, ns, e, hs, hl, q⟩ => hs.elim (fun z => .inl ⟨a, ns, e, z, hl, q⟩) (fun z => .inr ⟨a, ns, e, z, hl, q⟩)
theorem ch_pairs {f : Addr} {H H' : Hp} {l : List V} (c : Ch f H H') (e : H f = some (.lst l)) : ∀ {xs : List V} {rs : List (Int × Int)}, PairsAt H xs rs → PairsAt H' xs rs
  | [], [], _ => trivial
  | x :: xs, r :: rs, ⟨⟨p, h1, h2⟩, h3⟩ => ⟨⟨p, h1, c _ _ (fun z => by rw [z, e] at h2; cases h2) h2⟩, ch_pairs c e h3⟩
  | [], _ :: _, h => h.elim
  | _ :: _, [], h => h.elim
/-- what put_behind holds -/
structure Bhd (H : Hp) (C R : Addr) (xs : List V) (cs : List (Int × Int)) (rs : List Int) (Hx : Hp) : Prop where
  ch : Ch R H Hx
  c : Hx C = some (.lst xs)
  pa : PairsAt Hx xs cs
  r : Hx R = some (.lst (rs.map V.int))
theorem Bhd.same {H : Hp} {C R : Addr} {xs : List V} {cs : List (Int × Int)} {rs : List Int} {H1 H2 : Hp} (g : Bhd H C R xs cs rs H1) (s : Same H1 H2) : Bhd H C R xs cs rs H2 :=
  ⟨g.ch.trans (.of_same s), s _ _ g.c, g.pa.same s, s _ _ g.r⟩
theorem Bhd.rest {H : Hp} {C R : Addr} {xs : List V} {cs : List (Int × Int)} {rs : List Int} {H1 : Hp} (g : Bhd H C R xs cs rs H1) (nCR : C ≠ R) (rs' : List Int) : Bhd H C R xs cs rs' (upd H1 R (.lst (rs'.map V.int))) :=
  ⟨g.ch.trans .put, by rw [upd_ne nCR]; exact g.c, pairs_upd g.r g.pa, upd_same⟩
theorem Bhd.cyc {H : Hp} {C R q : Addr} {xs : List V} {cs : List (Int × Int)} {rs : List Int} {H1 : Hp} {c : Int × Int} (g : Bhd H C R xs cs rs H1) (nC : H C = none) (nCR : C ≠ R) (hq : H1 q = some (.tup [.int c.1, .int c.2])) :
    Bhd H C R (xs ++ [.ref q]) (cs ++ [c]) rs (upd H1 C (.lst (xs ++ [.ref q]))) :=
  ⟨Ch.again nC g.ch, upd_same, PairsAt.append (pairs_upd g.c g.pa) ⟨⟨q, rfl, by rw [upd_ne (fun z => by rw [z, g.c] at hq; cases hq)]; exact hq⟩, trivial⟩, by rw [upd_ne nCR.symm]; exact g.r⟩
def spPB : Sp := fun vs H Q _ => ∃ (R : Addr) (rs : List Int) (r : Int), vs = [.ref R, .int r] ∧ H R = some (.lst (rs.map V.int)) ∧ ZZ rs ∧ NF rs ∧ rs.length ≤ 2500 ∧
  ∀ H' p xs cs rs', Ch R H H' → H p = none → H' p = some (.lst xs) → PairsAt H' xs cs → H' R = some (.lst (rs'.map V.int)) → Run (push rs r) cs rs' → NF rs' → Q (.ref p) H'
theorem ok_PB {f fL fM fR : Addr} {fd fdL fdM fdR : FuncData} {k : Nat} (F : Fun K "put_behind" "put_behind" sPB f fd)
    (GL : FnOk P w K mg base CX0 (k + 2) fL fdL ["points", "reading"] (spLO K)) (gL : mg "is_left_out" = some (.ref fL)) (kL : PySem.W.keepIn K (.ref fL) = true) (bL : Binds K fdL ["points", "reading"] [])
    (GM : FnOk P w K mg base CX0 (k + 2) fM fdM ["points", "place"] (spMT K)) (gM : mg "_may_be_taken" = some (.ref fM)) (kM : PySem.W.keepIn K (.ref fM) = true) (bM : Binds K fdM ["points", "place"] [])
    (GR : FnOk P w K mg base CX0 (k + 2) fR fdR ["one", "other"] spRng) (gR : mg "range_of" = some (.ref fR)) (kR : PySem.W.keepIn K (.ref fR) = true) (bR : Binds K fdR ["one", "other"] [])
    (ml : mg "len" = none) : FnOk P w K mg base CX0 (k + 3) f fd ["rest", "reading"] spPB := by
  refine F.ok scPB (fun vs H Q E h => ?_) (fun cdv A outer s H vs Q E hr h => ?_)
  · obtain ⟨R, rs, r, rfl, _⟩ := h
    rfl
  · obtain ⟨R, rs0, r, rfl, eR, zz0, nf0, hlen, hq⟩ := h
    refine ⟨_, pss_cons (ps_if (pt_val (pe_call GL hr (by rfl) gL kL bL .nil pass0 (pa_cons (pv 0) (pa_cons (pv 1) pa_nil))))
          (pss_one (ps_expr (pe_bm0 PySem.F.plainAttrs_list PySem.F.slot_list_pop PySem.F.type_list_pop mt_pop (pv 0)))) pss_nil)
      (pss_cons (ps_expr (pe_bm PySem.F.plainAttrs_list PySem.F.slot_list_append PySem.F.type_list_append mt_append (pv 0) (pa_cons (pv 1) pa_nil)))
      (pss_cons (ps_set (i := 2) scPB.nd rfl (.inl rfl) (pe_lst pa_nil))
      (pss_cons (ps_while PassesOwn.never
            (PW.pt (pw_and (pt_cmpR op_gt (pe_callB call_len_seq (by rfl) ml PySem.boot_len (pa_cons (pv 0) pa_nil)) pe_int (nomark _)) (pw_and1 (pt_val (pe_call GM hr (by rfl) gM kM bM .nil pass0 (pa_cons (pv 0) (pa_cons (pe_op op_sub (pe_callB call_len_seq (by rfl) ml PySem.boot_len (pa_cons (pv 0) pa_nil)) pe_int) pa_nil)))))))
            (pss_cons (ps_expr (pe_bm PySem.F.plainAttrs_list PySem.F.slot_list_append PySem.F.type_list_append mt_append (pv 2) (pa_cons (pe_call GR hr (by rfl) gR kR bR .nil pass0 (pa_cons (pe_ix ix_list (pv 0) (pe_un un_neg pe_int) (fun _ _ => rfl)) (pa_cons (pe_ix ix_list (pv 0) (pe_un un_neg pe_int) (fun _ _ => rfl)) pa_nil))) pa_nil)))
              (pss_one (DS.ps_del31 (pv 0) (po_some (pe_un un_neg pe_int)) (po_some (pe_un un_neg pe_int))))))
      (pss_one (ps_ret (pv 2)))))), ?_⟩
    have zz1 : ZZ (push rs0 r) := zz_push r zz0
    have hp := push_lo rs0 r
    have hpl := push_len rs0 r
    refine ⟨.ref R, rfl, .int r, rfl, R, rs0, r, rfl, SqL.of eR, _, rfl, ?_⟩
    obtain ⟨m, nfm, em, hm1⟩ : ∃ m, NF m ∧ push rs0 r = m ++ [r] ∧ m = (if lo rs0 r = true then rs0.dropLast else rs0) := by
      refine ⟨_, ?_, hp, rfl⟩
      split
      · rcases List.eq_nil_or_concat rs0 with h | ⟨m1, d, h⟩
        · rw [h] at nf0 ⊢
          exact nf0
        · have h : rs0 = m1 ++ [d] := by rw [h]; simp
          rw [h] at nf0 ⊢
          rw [List.dropLast_concat]
          exact nf_prefix nf0
      · exact nf0
    rw [em] at zz1 hpl hq
    have hml : m.length ≤ 2500 := by
      rw [hm1]
      split
      · rw [List.length_dropLast]; omega
      · exact hlen
    have e1 : m.map V.int ++ [V.int r] = (m ++ [r]).map V.int := by rw [List.map_append]; rfl
    have start : ∀ C, (upd H R (.lst ((m ++ [r]).map V.int))) C = none → Bhd H C R [] [] (m ++ [r]) (upd (upd H R (.lst ((m ++ [r]).map V.int))) C (.lst [])) ∧ C ≠ R ∧ H C = none := by
      intro C nC
      have nCR : C ≠ R := fun z => by rw [z, upd_same] at nC; cases nC
      have nC0 : H C = none := by rw [upd_ne nCR] at nC; exact nC
      refine ⟨⟨.again nC0 .put, upd_same, trivial, by rw [upd_ne nCR.symm, upd_same]⟩, nCR, nC0⟩
    cases hl : lo rs0 r
    · rw [hl, if_neg (by decide)] at hm1
      subst hm1
      refine iteF ?_
      refine ⟨.ref R, rfl, .inl ⟨rfl, _, SqL.of eR⟩, .int r, rfl, R, _, _, rfl, rfl, eR, by rw [List.length_map]; exact small3000 (by omega), ?_⟩
      rw [e1]
      refine ⟨Nat.zero_le _, fun C nC => ?_⟩
      obtain ⟨g1, nCR, nC0⟩ := start C nC
      generalize upd (upd H R (.lst ((m ++ [r]).map V.int))) C (.lst []) = Hs at g1 ⊢
      refine ⟨fun n σ Hx => ∃ (xs : List V) (cs : List (Int × Int)) (mm : List Int), n = mm.length ∧ σ = [some (.ref R), some (.int r), some (.ref C)] ∧ Bhd H C R xs cs (mm ++ [r]) Hx ∧ Run (m ++ [r]) cs (mm ++ [r]) ∧ NF mm,
        ⟨_, [], [], m, rfl, rfl, g1, .nil _, nfm⟩, ?_⟩
      clear g1
      rintro n σ Hx ⟨xs, cs, mm, rfl, rfl, g, run, nf⟩
      have hrl := run.len
      simp only [List.length_append, List.length_singleton] at hrl
      have zzm := run.zz zz1
      have hm : ((mm ++ [r]).map V.int).length = mm.length + 1 := by simp
      refine ⟨.ref R, rfl, R, _, rfl, .inl (SqL.of g.r), _, 3, rfl, rfl, _, rfl, ?_⟩
      by_cases h3 : 3 ≤ mm.length
      · rw [show decide ((((mm ++ [r]).map V.int).length : Int) > 3) = true from decide_eq_true (by rw [hm]; omega)]
        obtain ⟨pre, b, c, d, rfl⟩ := last3 h3
        have hml : (pre ++ [b, c, d]).length = pre.length + 3 := by simp
        have el : pre ++ [b, c, d] ++ [r] = pre ++ b :: c :: d :: r :: [] := by simp
        have q0 : (pre ++ [b, c, d] ++ [r])[pre.length]? = some b := by rw [el, List.getElem?_append_right (by omega)]; simp
        have q1 : (pre ++ [b, c, d] ++ [r])[pre.length + 1]? = some c := by rw [el, List.getElem?_append_right (by omega)]; simp
        have q2 : (pre ++ [b, c, d] ++ [r])[pre.length + 2]? = some d := by rw [el, List.getElem?_append_right (by omega)]; simp
        have q3 : (pre ++ [b, c, d] ++ [r])[pre.length + 3]? = some r := by rw [el, List.getElem?_append_right (by omega)]; simp
        refine iteT ⟨.ref R, rfl, .ref R, rfl, R, _, rfl, .inl (SqL.of g.r), _, 3, rfl, rfl, R, pre ++ [b, c, d] ++ [r], pre.length, _, b, c, d, r, rfl, by rw [hm, hml]; omega, .inl (SqL.of g.r), zzm, q0, q1, q2, q3, fun H2 s2 => ⟨_, rfl, ?_⟩⟩
        have g2 := g.same s2
        rw [taken_get q0 q1 q2 q3]
        by_cases tk : Taken b c d r
        · rw [decide_eq_true tk]
          refine iteT ⟨fun σ Hx => ∃ m', m' < (pre ++ [b, c, d]).length ∧ ∃ (xs : List V) (cs : List (Int × Int)) (mm : List Int), m' = mm.length ∧ σ = [some (.ref R), some (.int r), some (.ref C)] ∧ Bhd H C R xs cs (mm ++ [r]) Hx ∧ Run (m ++ [r]) cs (mm ++ [r]) ∧ NF mm, fun _ _ z => z, ?_⟩
          have eR : H2 R = some (.lst ((pre ++ [b]).map V.int ++ [V.int c, V.int d, V.int r])) := by
            rw [g2.r]
            simp [List.map_append]
          refine ⟨.ref C, rfl, .inl ⟨rfl, _, SqL.of g2.c⟩, .ref R, rfl, 3, rfl, R, _, -3, .int c, rfl, rfl, SqL.of eR, atI_last3 _ _ _ _, .ref R, rfl, 2, rfl, R, _, -2, .int d, rfl, rfl, SqL.of eR, atI_last2' _ _ _ _, c, d, rfl, fun q nq => ?_⟩
          have s3 := same_new (o := .tup [.int (rg c d).1, .int (rg c d).2]) nq
          have g3 := (g2.same s3).cyc nC0 nCR (upd_same (H := H2) (a := q) (o := .tup [.int (rg c d).1, .int (rg c d).2]))
          have hxl : xs.length ≤ 2500 := by rw [g2.pa.length]; omega
          refine ⟨C, xs, .ref q, rfl, rfl, s3 _ _ g2.c, small3000 (by omega), ?_⟩
          have eR3 : (upd (upd H2 q (.tup [.int (rg c d).1, .int (rg c d).2])) C (.lst (xs ++ [.ref q]))) R = some (.lst ((pre ++ [b]).map V.int ++ [V.int c, V.int d, V.int r])) := by
            rw [upd_ne nCR.symm]
            exact s3 _ _ eR
          refine ⟨.ref R, rfl, 3, rfl, _, rfl, 1, rfl, _, rfl, rfl, rfl, R, (pre ++ [b]).map V.int, .int c, .int d, .int r, rfl, eR3, ?_⟩
          have g4 := g3.rest nCR (pre ++ [b] ++ [r])
          have e5 : (pre ++ [b]).map V.int ++ [V.int r] = (pre ++ [b] ++ [r]).map V.int := by simp [List.map_append]
          rw [e5]
          refine ⟨(pre ++ [b]).length, by simp, _, _, pre ++ [b], rfl, rfl, g4, ?_, nf_prefix (l := [c, d]) (by simpa using nf)⟩
          refine run.snoc ?_
          rw [el, List.append_assoc]
          exact (Step.here tk).prefix pre
        · rw [decide_eq_false tk]
          refine iteF ?_
          refine ⟨.ref C, rfl, hq _ C xs cs _ g2.ch nC0 g2.c g2.pa g2.r run (nf_push nf fun pre' b' c' d' e => ?_)⟩
          have e6 : pre' ++ [b', c', d', r] = (pre' ++ [b', c', d']) ++ [r] := by simp
          rw [e6] at e
          obtain ⟨e7, _⟩ := List.append_inj' e rfl
          obtain ⟨_, e8⟩ := List.append_inj' e7 rfl
          injection e8 with h1 h2
          injection h2 with h2 h3
          injection h3 with h3 _
          subst h1 h2 h3
          exact tk
      · rw [show decide ((((mm ++ [r]).map V.int).length : Int) > 3) = false from decide_eq_false (by rw [hm]; omega)]
        refine iteF ?_
        refine iteF ?_
        refine ⟨.ref C, rfl, hq _ C xs cs _ g.ch nC0 g.c g.pa g.r run (nf_push nf fun pre' b' c' d' e => ?_)⟩
        have : (mm ++ [r]).length = (pre' ++ [b', c', d', r]).length := by rw [e]
        simp only [List.length_append, List.length_cons, List.length_nil] at this
        omega
    · rw [hl, if_pos rfl] at hm1
      obtain ⟨u, hu⟩ : ∃ u, rs0 = m ++ [u] := by
        rcases List.eq_nil_or_concat rs0 with h | ⟨m1, d, h⟩
        · rw [h] at hl; cases hl
        · refine ⟨d, ?_⟩
          rw [hm1, h]
          simp
      have eR2 : H R = some (.lst (m.map V.int ++ [V.int u])) := by rw [eR, hu]; simp
      refine iteT ⟨.ref R, rfl, .inl ⟨rfl, _, SqL.of eR⟩, R, m.map V.int ++ [V.int u], .int u, rfl, rfl, eR2, by simp, ?_⟩
      refine ⟨.ref R, rfl, .inl ⟨rfl, _, SqL.of upd_same⟩, .int r, rfl, R, m.map V.int, _, rfl, rfl, by rw [upd_same, List.dropLast_concat], by rw [List.length_map]; exact small3000 (by omega), ?_⟩
      rw [upd_upd, e1]
      refine ⟨Nat.zero_le _, fun C nC => ?_⟩
      obtain ⟨g1, nCR, nC0⟩ := start C nC
      generalize upd (upd H R (.lst ((m ++ [r]).map V.int))) C (.lst []) = Hs at g1 ⊢
      refine ⟨fun n σ Hx => ∃ (xs : List V) (cs : List (Int × Int)) (mm : List Int), n = mm.length ∧ σ = [some (.ref R), some (.int r), some (.ref C)] ∧ Bhd H C R xs cs (mm ++ [r]) Hx ∧ Run (m ++ [r]) cs (mm ++ [r]) ∧ NF mm,
        ⟨_, [], [], m, rfl, rfl, g1, .nil _, nfm⟩, ?_⟩
      clear g1
      rintro n σ Hx ⟨xs, cs, mm, rfl, rfl, g, run, nf⟩
      have hrl := run.len
      simp only [List.length_append, List.length_singleton] at hrl
      have zzm := run.zz zz1
      have hm : ((mm ++ [r]).map V.int).length = mm.length + 1 := by simp
      refine ⟨.ref R, rfl, R, _, rfl, .inl (SqL.of g.r), _, 3, rfl, rfl, _, rfl, ?_⟩
      by_cases h3 : 3 ≤ mm.length
      · rw [show decide ((((mm ++ [r]).map V.int).length : Int) > 3) = true from decide_eq_true (by rw [hm]; omega)]
        obtain ⟨pre, b, c, d, rfl⟩ := last3 h3
        have hml : (pre ++ [b, c, d]).length = pre.length + 3 := by simp
        have el : pre ++ [b, c, d] ++ [r] = pre ++ b :: c :: d :: r :: [] := by simp
        have q0 : (pre ++ [b, c, d] ++ [r])[pre.length]? = some b := by rw [el, List.getElem?_append_right (by omega)]; simp
        have q1 : (pre ++ [b, c, d] ++ [r])[pre.length + 1]? = some c := by rw [el, List.getElem?_append_right (by omega)]; simp
        have q2 : (pre ++ [b, c, d] ++ [r])[pre.length + 2]? = some d := by rw [el, List.getElem?_append_right (by omega)]; simp
        have q3 : (pre ++ [b, c, d] ++ [r])[pre.length + 3]? = some r := by rw [el, List.getElem?_append_right (by omega)]; simp
        refine iteT ⟨.ref R, rfl, .ref R, rfl, R, _, rfl, .inl (SqL.of g.r), _, 3, rfl, rfl, R, pre ++ [b, c, d] ++ [r], pre.length, _, b, c, d, r, rfl, by rw [hm, hml]; omega, .inl (SqL.of g.r), zzm, q0, q1, q2, q3, fun H2 s2 => ⟨_, rfl, ?_⟩⟩
        have g2 := g.same s2
        rw [taken_get q0 q1 q2 q3]
        by_cases tk : Taken b c d r
        · rw [decide_eq_true tk]
          refine iteT ⟨fun σ Hx => ∃ m', m' < (pre ++ [b, c, d]).length ∧ ∃ (xs : List V) (cs : List (Int × Int)) (mm : List Int), m' = mm.length ∧ σ = [some (.ref R), some (.int r), some (.ref C)] ∧ Bhd H C R xs cs (mm ++ [r]) Hx ∧ Run (m ++ [r]) cs (mm ++ [r]) ∧ NF mm, fun _ _ z => z, ?_⟩
          have eR : H2 R = some (.lst ((pre ++ [b]).map V.int ++ [V.int c, V.int d, V.int r])) := by
            rw [g2.r]
            simp [List.map_append]
          refine ⟨.ref C, rfl, .inl ⟨rfl, _, SqL.of g2.c⟩, .ref R, rfl, 3, rfl, R, _, -3, .int c, rfl, rfl, SqL.of eR, atI_last3 _ _ _ _, .ref R, rfl, 2, rfl, R, _, -2, .int d, rfl, rfl, SqL.of eR, atI_last2' _ _ _ _, c, d, rfl, fun q nq => ?_⟩
          have s3 := same_new (o := .tup [.int (rg c d).1, .int (rg c d).2]) nq
          have g3 := (g2.same s3).cyc nC0 nCR (upd_same (H := H2) (a := q) (o := .tup [.int (rg c d).1, .int (rg c d).2]))
          have hxl : xs.length ≤ 2500 := by rw [g2.pa.length]; omega
          refine ⟨C, xs, .ref q, rfl, rfl, s3 _ _ g2.c, small3000 (by omega), ?_⟩
          have eR3 : (upd (upd H2 q (.tup [.int (rg c d).1, .int (rg c d).2])) C (.lst (xs ++ [.ref q]))) R = some (.lst ((pre ++ [b]).map V.int ++ [V.int c, V.int d, V.int r])) := by
            rw [upd_ne nCR.symm]
            exact s3 _ _ eR
          refine ⟨.ref R, rfl, 3, rfl, _, rfl, 1, rfl, _, rfl, rfl, rfl, R, (pre ++ [b]).map V.int, .int c, .int d, .int r, rfl, eR3, ?_⟩
          have g4 := g3.rest nCR (pre ++ [b] ++ [r])
          have e5 : (pre ++ [b]).map V.int ++ [V.int r] = (pre ++ [b] ++ [r]).map V.int := by simp [List.map_append]
          rw [e5]
          refine ⟨(pre ++ [b]).length, by simp, _, _, pre ++ [b], rfl, rfl, g4, ?_, nf_prefix (l := [c, d]) (by simpa using nf)⟩
          refine run.snoc ?_
          rw [el, List.append_assoc]
          exact (Step.here tk).prefix pre
        · rw [decide_eq_false tk]
          refine iteF ?_
          refine ⟨.ref C, rfl, hq _ C xs cs _ g2.ch nC0 g2.c g2.pa g2.r run (nf_push nf fun pre' b' c' d' e => ?_)⟩
          have e6 : pre' ++ [b', c', d', r] = (pre' ++ [b', c', d']) ++ [r] := by simp
          rw [e6] at e
          obtain ⟨e7, _⟩ := List.append_inj' e rfl
          obtain ⟨_, e8⟩ := List.append_inj' e7 rfl
          injection e8 with h1 h2
          injection h2 with h2 h3
          injection h3 with h3 _
          subst h1 h2 h3
          exact tk
      · rw [show decide ((((mm ++ [r]).map V.int).length : Int) > 3) = false from decide_eq_false (by rw [hm]; omega)]
        refine iteF ?_
        refine iteF ?_
        refine ⟨.ref C, rfl, hq _ C xs cs _ g.ch nC0 g.c g.pa g.r run (nf_push nf fun pre' b' c' d' e => ?_)⟩
        have : (mm ++ [r]).length = (pre' ++ [b', c', d', r]).length := by rw [e]
        simp only [List.length_append, List.length_cons, List.length_nil] at this
        omega
/-- what _counted holds -/
structure Stk (H : Hp) (C R : Addr) (xs : List V) (cs : List (Int × Int)) (rs : List Int) (Hx : Hp) : Prop where
  sm : Same H Hx
  c : Hx C = some (.lst xs)
  pa : PairsAt Hx xs cs
  r : Hx R = some (.lst (rs.map V.int))
def spCoL (K : PySem.W.Frag) : Sp := fun vs H Q _ => ∃ (a : Addr) (ns : List Int), vs = [.ref a] ∧ SqL K H a (ns.map V.int) ∧ ns.length ≤ 2500 ∧
  ∀ H' p c r xs cs rs, Same H H' → H p = none → H' p = some (.tup [.ref c, .ref r]) → H' c = some (.lst xs) → PairsAt H' xs cs → H' r = some (.lst (rs.map V.int)) → Run (tp ns) cs rs → NF rs → Q (.ref p) H'
def spCoT (K : PySem.W.Frag) : Sp := fun vs H Q _ => ∃ (a : Addr) (ns : List Int), vs = [.ref a] ∧ SqT K H a (ns.map V.int) ∧ ns.length ≤ 2500 ∧
  ∀ H' p c r xs cs rs, Same H H' → H p = none → H' p = some (.tup [.ref c, .ref r]) → H' c = some (.lst xs) → PairsAt H' xs cs → H' r = some (.lst (rs.map V.int)) → Run (tp ns) cs rs → NF rs → Q (.ref p) H'
theorem ok_Col {f fB : Addr} {fd fdB : FuncData} {k : Nat} (F : Fun K "_counted" "_counted" sCo f fd)
    (GB : FnOk P w K mg base CX0 (k + 3) fB fdB ["rest", "reading"] spPB) (gB : mg "put_behind" = some (.ref fB)) (kB : PySem.W.keepIn K (.ref fB) = true) (bB : Binds K fdB ["rest", "reading"] []) :
    FnOk P w K mg base CX0 (k + 4) f fd ["load"] (spCoL K) := by
  refine F.ok scCo (fun vs H Q E h => ?_) (fun cdv A outer s H vs Q E hr h => ?_)
  · obtain ⟨a, ns, rfl, _⟩ := h
    rfl
  · obtain ⟨a, ns, rfl, hS, hlen, hq⟩ := h
    refine ⟨_, pss_cons (ps_par (i := 1) (j := 2) (by rfl) scCo.nd rfl rfl (by decide) rfl rfl (pa_cons (pe_lst pa_nil) (pa_cons (pe_lst pa_nil) pa_nil)) (by rfl))
      (pss_cons (ps_for PassesOwn.never rfl (pi_list (pv 0)) (pg_name (i := 3) scCo.nd rfl (.inl rfl))
        (pss_one (ps_expr (pe_bm PySem.F.plainAttrs_list PySem.F.slot_list_extend PySem.F.type_list_extend mt_extend (pv 1) (pa_cons (pe_call GB hr (by rfl) gB kB bB .nil pass0 (pa_cons (pv 2) (pa_cons (pv 3) pa_nil))) pa_nil)))))
      (pss_one (ps_ret (pe_tup (pa_cons (pv 1) (pa_cons (pv 2) pa_nil)))))), ?_⟩
    refine ⟨Nat.zero_le _, fun C nC => ⟨Nat.zero_le _, fun R nR => ⟨.ref C, .ref R, rfl, ?_⟩⟩⟩
    have nCR : C ≠ R := fun z => by rw [← z, upd_same] at nR; cases nR
    have nR0 : H R = none := (same_new nC).free nR
    have sm0 : Same H (upd (upd H C (.lst [])) R (.lst [])) := (same_new nC).trans (same_new nR)
    have eC0 : (upd (upd H C (.lst [])) R (.lst [])) C = some (.lst []) := by rw [upd_ne nCR, upd_same]
    have eR0 : (upd (upd H C (.lst [])) R (.lst [])) R = some (.lst []) := upd_same
    generalize upd (upd H C (.lst [])) R (.lst []) = H0 at sm0 eC0 eR0 ⊢
    have hts : ∀ i, tp (ns.take i) = tp (ns.take i) := fun _ => rfl
    refine ⟨.ref a, rfl, a, rfl, ⟨_, sm0.seq hS⟩, for_list (K := K) (a := a) (xs := ns.map V.int) (fun i σ Hx => ∃ (xs : List V) (cs : List (Int × Int)) (rs : List Int) (r3 : Option V), σ = [some (.ref a), some (.ref C), some (.ref R), r3] ∧
      Stk H C R xs cs rs Hx ∧ Run (tp (ns.take i)) cs rs ∧ NF rs) ?_ ?_ ?_ ?_⟩
    · exact ⟨[], [], [], none, rfl, ⟨sm0, eC0, trivial, eR0⟩, .nil _, fun c q s => by have := s.len; simp at this⟩
    · rintro i σ Hx _ ⟨xs, cs, rs, r3, rfl, g, _⟩
      exact g.sm.seq hS
    · rintro i x σ Hx hx ⟨xs, cs, rs, r3, rfl, g, run, nf⟩
      obtain ⟨r, hr2, rfl⟩ := int_at hx
      have hin : i < ns.length := (List.getElem?_eq_some_iff.mp hr2).1
      have hrl := run.len
      have htl := tp_len (ns.take i)
      rw [List.length_take] at htl
      have zz := run.zz (tp_zz (ns.take i))
      refine ⟨.ref C, rfl, .inl ⟨rfl, _, SqL.of g.c⟩, .ref R, rfl, .int r, rfl, R, rs, r, rfl, g.r, zz, nf, by omega, fun H2 p ys cs2 rs2 ch np ep pa2 eR2 run2 nf2 => ?_⟩
      have eC2 : H2 C = some (.lst xs) := ch _ _ nCR g.c
      have npC : p ≠ C := fun z => by rw [z, g.c] at np; cases np
      have npR : p ≠ R := fun z => by rw [z, g.r] at np; cases np
      have sm2 : Same H H2 := fun b o e => ch b o (ne_of_none e nR0) (g.sm b o e)
      have run3 := stream hr2 run run2
      have hrl3 := run3.len
      have htl3 := tp_len (ns.take (i + 1))
      rw [List.length_take] at htl3
      have hxl := g.pa.length
      have hyl := pa2.length
      rw [List.length_append] at hrl3
      refine ⟨C, p, xs, ys, rfl, rfl, eC2, ep, Nat.le_of_lt (small3000 (by omega)), _, cs ++ cs2, rs2, _, rfl, ⟨same_again nC sm2, upd_same, ?_, by rw [upd_ne nCR.symm]; exact eR2⟩, run3, nf2⟩
      exact PairsAt.append (pairs_upd eC2 (ch_pairs ch g.r g.pa)) (pairs_upd eC2 pa2)
    · rintro σ Hx ⟨xs, cs, rs, r3, rfl, g, run, nf⟩
      have et2 : ns.take (ns.map V.int).length = ns := by rw [List.length_map]; exact List.take_length
      rw [et2] at run
      refine ⟨.ref C, rfl, .ref R, rfl, by show 2 ≤ sizeLine; decide, fun p np => ?_⟩
      have sp := same_new (o := .tup [.ref C, .ref R]) np
      exact hq _ p C R xs cs rs (g.sm.trans sp) (g.sm.free np) upd_same (sp _ _ g.c) (g.pa.same sp) (sp _ _ g.r) run nf
theorem ok_Cot {f fB : Addr} {fd fdB : FuncData} {k : Nat} (F : Fun K "_counted" "_counted" sCo f fd)
    (GB : FnOk P w K mg base CX0 (k + 3) fB fdB ["rest", "reading"] spPB) (gB : mg "put_behind" = some (.ref fB)) (kB : PySem.W.keepIn K (.ref fB) = true) (bB : Binds K fdB ["rest", "reading"] []) :
    FnOk P w K mg base CX0 (k + 4) f fd ["load"] (spCoT K) := by
  refine F.ok scCo (fun vs H Q E h => ?_) (fun cdv A outer s H vs Q E hr h => ?_)
  · obtain ⟨a, ns, rfl, _⟩ := h
    rfl
  · obtain ⟨a, ns, rfl, hS, hlen, hq⟩ := h
    refine ⟨_, pss_cons (ps_par (i := 1) (j := 2) (by rfl) scCo.nd rfl rfl (by decide) rfl rfl (pa_cons (pe_lst pa_nil) (pa_cons (pe_lst pa_nil) pa_nil)) (by rfl))
      (pss_cons (ps_for PassesOwn.never rfl (pi_tup (pv 0)) (pg_name (i := 3) scCo.nd rfl (.inl rfl))
        (pss_one (ps_expr (pe_bm PySem.F.plainAttrs_list PySem.F.slot_list_extend PySem.F.type_list_extend mt_extend (pv 1) (pa_cons (pe_call GB hr (by rfl) gB kB bB .nil pass0 (pa_cons (pv 2) (pa_cons (pv 3) pa_nil))) pa_nil)))))
      (pss_one (ps_ret (pe_tup (pa_cons (pv 1) (pa_cons (pv 2) pa_nil)))))), ?_⟩
    refine ⟨Nat.zero_le _, fun C nC => ⟨Nat.zero_le _, fun R nR => ⟨.ref C, .ref R, rfl, ?_⟩⟩⟩
    have nCR : C ≠ R := fun z => by rw [← z, upd_same] at nR; cases nR
    have nR0 : H R = none := (same_new nC).free nR
    have sm0 : Same H (upd (upd H C (.lst [])) R (.lst [])) := (same_new nC).trans (same_new nR)
    have eC0 : (upd (upd H C (.lst [])) R (.lst [])) C = some (.lst []) := by rw [upd_ne nCR, upd_same]
    have eR0 : (upd (upd H C (.lst [])) R (.lst [])) R = some (.lst []) := upd_same
    generalize upd (upd H C (.lst [])) R (.lst []) = H0 at sm0 eC0 eR0 ⊢
    have hts : ∀ i, tp (ns.take i) = tp (ns.take i) := fun _ => rfl
    refine ⟨.ref a, rfl, a, rfl, ⟨_, SqT_same sm0 hS⟩, for_tup (K := K) (a := a) (xs := ns.map V.int) (fun i σ Hx => ∃ (xs : List V) (cs : List (Int × Int)) (rs : List Int) (r3 : Option V), σ = [some (.ref a), some (.ref C), some (.ref R), r3] ∧
      Stk H C R xs cs rs Hx ∧ Run (tp (ns.take i)) cs rs ∧ NF rs) ?_ ?_ ?_ ?_⟩
    · exact ⟨[], [], [], none, rfl, ⟨sm0, eC0, trivial, eR0⟩, .nil _, fun c q s => by have := s.len; simp at this⟩
    · rintro i σ Hx _ ⟨xs, cs, rs, r3, rfl, g, _⟩
      exact SqT_same g.sm hS
    · rintro i x σ Hx hx ⟨xs, cs, rs, r3, rfl, g, run, nf⟩
      obtain ⟨r, hr2, rfl⟩ := int_at hx
      have hin : i < ns.length := (List.getElem?_eq_some_iff.mp hr2).1
      have hrl := run.len
      have htl := tp_len (ns.take i)
      rw [List.length_take] at htl
      have zz := run.zz (tp_zz (ns.take i))
      refine ⟨.ref C, rfl, .inl ⟨rfl, _, SqL.of g.c⟩, .ref R, rfl, .int r, rfl, R, rs, r, rfl, g.r, zz, nf, by omega, fun H2 p ys cs2 rs2 ch np ep pa2 eR2 run2 nf2 => ?_⟩
      have eC2 : H2 C = some (.lst xs) := ch _ _ nCR g.c
      have npC : p ≠ C := fun z => by rw [z, g.c] at np; cases np
      have npR : p ≠ R := fun z => by rw [z, g.r] at np; cases np
      have sm2 : Same H H2 := fun b o e => ch b o (ne_of_none e nR0) (g.sm b o e)
      have run3 := stream hr2 run run2
      have hrl3 := run3.len
      have htl3 := tp_len (ns.take (i + 1))
      rw [List.length_take] at htl3
      have hxl := g.pa.length
      have hyl := pa2.length
      rw [List.length_append] at hrl3
      refine ⟨C, p, xs, ys, rfl, rfl, eC2, ep, Nat.le_of_lt (small3000 (by omega)), _, cs ++ cs2, rs2, _, rfl, ⟨same_again nC sm2, upd_same, ?_, by rw [upd_ne nCR.symm]; exact eR2⟩, run3, nf2⟩
      exact PairsAt.append (pairs_upd eC2 (ch_pairs ch g.r g.pa)) (pairs_upd eC2 pa2)
    · rintro σ Hx ⟨xs, cs, rs, r3, rfl, g, run, nf⟩
      have et2 : ns.take (ns.map V.int).length = ns := by rw [List.length_map]; exact List.take_length
      rw [et2] at run
      refine ⟨.ref C, rfl, .ref R, rfl, by show 2 ≤ sizeLine; decide, fun p np => ?_⟩
      have sp := same_new (o := .tup [.ref C, .ref R]) np
      exact hq _ p C R xs cs rs (g.sm.trans sp) (g.sm.free np) upd_same (sp _ _ g.c) (g.pa.same sp) (sp _ _ g.r) run nf
def spCo (K : PySem.W.Frag) : Sp := fun vs H Q _ => ∃ (a : Addr) (ns : List Int), vs = [.ref a] ∧ Sq K H a (ns.map V.int) ∧ ns.length ≤ 2500 ∧
  ∀ H' p c r xs cs rs, Same H H' → H p = none → H' p = some (.tup [.ref c, .ref r]) → H' c = some (.lst xs) → PairsAt H' xs cs → H' r = some (.lst (rs.map V.int)) → Run (tp ns) cs rs → NF rs → Q (.ref p) H'
theorem ok_Co {f fB : Addr} {fd fdB : FuncData} {k : Nat} (F : Fun K "_counted" "_counted" sCo f fd)
    (GB : FnOk P w K mg base CX0 (k + 3) fB fdB ["rest", "reading"] spPB) (gB : mg "put_behind" = some (.ref fB)) (kB : PySem.W.keepIn K (.ref fB) = true) (bB : Binds K fdB ["rest", "reading"] []) :
    FnOk P w K mg base CX0 (k + 4) f fd ["load"] (spCo K) :=
  (both (ok_Col F GB gB kB bB) (ok_Cot F GB gB kB bB)).imp fun vs H Q E ⟨a, ns, e, hs, hl, q⟩ => hs.elim (fun z => .inl ⟨a, ns, e, z, hl, q⟩) (fun z => .inr ⟨a, ns, e, z, hl, q⟩)
end
end QG

/-! counts -/
namespace QH
open PySem PySem.Spec PyProof.Rows L2 KA PH PM PA PB PC RM RN QE QF QG
abbrev sInit : Stmt := inClass sClass 0
abbrev sOf : Stmt := inClass sClass 1
abbrev sPC : Stmt := inClass sClass 4
abbrev sPR : Stmt := inClass sClass 5
abbrev sPH : Stmt := inClass sClass 6
theorem scInit : FnScope ["self", "cycles", "rest"] ["self", "cycles", "rest"] (defScope sInit) := ⟨rfl, rfl, rfl, by decide +kernel, rfl, by decide +kernel, by decide +kernel⟩
theorem scOf : FnScope ["cls", "load", "cycles", "rest"] ["cls", "load"] (defScope sOf) := ⟨rfl, rfl, rfl, by decide +kernel, rfl, by decide +kernel, by decide +kernel⟩
theorem scPC : FnScope ["self"] ["self"] (defScope sPC) := ⟨rfl, rfl, rfl, by decide +kernel, rfl, by decide +kernel, by decide +kernel⟩
theorem scPR : FnScope ["self"] ["self"] (defScope sPR) := ⟨rfl, rfl, rfl, by decide +kernel, rfl, by decide +kernel, by decide +kernel⟩
theorem scPH : FnScope ["self"] ["self"] (defScope sPH) := ⟨rfl, rfl, rfl, by decide +kernel, rfl, by decide +kernel, by decide +kernel⟩
/-! ### sorted pairs -/
/-- the pair at a ref -/
def kOf (H : Hp) : V → Int × Int
  | .ref p => match H p with
    | some (.tup [.int a, .int b]) => (a, b)
    | _ => (0, 0)
  | _ => (0, 0)
theorem kOf_at {H : Hp} {p : Addr} {r : Int × Int} (h : H p = some (.tup [.int r.1, .int r.2])) : kOf H (.ref p) = r := by
  show (match H p with | some (.tup [.int a, .int b]) => (a, b) | _ => (0, 0)) = r
  rw [h]
theorem pairs_key {H : Hp} : ∀ {xs : List V} {rs : List (Int × Int)}, PairsAt H xs rs → rs = xs.map (kOf H) ∧ ∀ x ∈ xs, ∃ t, x = V.ref t ∧ H t = some (.tup [.int (kOf H x).1, .int (kOf H x).2])
  | [], [], _ => ⟨rfl, fun _ z => (List.not_mem_nil z).elim⟩
  | x :: xs, r :: rs, ⟨⟨p, h1, h2⟩, h3⟩ => by
    obtain ⟨e, all⟩ := pairs_key h3
    subst h1
    have k := kOf_at h2
    refine ⟨by rw [List.map_cons, k, ← e], fun x hx => ?_⟩
    rcases List.mem_cons.mp hx with z | z
    · exact ⟨p, z, by rw [z, k]; exact h2⟩
    · exact all x z
  | [], _ :: _, h => h.elim
  | _ :: _, [], h => h.elim
theorem pairs_of {H : Hp} : ∀ {xs : List V}, (∀ x ∈ xs, ∃ t, x = V.ref t ∧ H t = some (.tup [.int (kOf H x).1, .int (kOf H x).2])) → PairsAt H xs (xs.map (kOf H))
  | [], _ => trivial
  | x :: xs, h => ⟨h x List.mem_cons_self, pairs_of fun y hy => h y (List.mem_cons_of_mem _ hy)⟩
theorem sorted_out {H : Hp} {xs ys : List V} {rs : List (Int × Int)} (pa : PairsAt H xs rs) (h1 : SrtO.Srtd (ltP (kOf H)) ys) (h2 : SrtO.Stb (ltP (kOf H)) ys xs) : ∃ ds, PairsAt H ys ds ∧ ds.Perm rs ∧ ds.Pairwise Le := by
  obtain ⟨e, all⟩ := pairs_key pa
  refine ⟨ys.map (kOf H), pairs_of fun y hy => all y (h2.perm.mem_iff.mp hy), by rw [e]; exact h2.perm.map _, ?_⟩
  rw [List.pairwise_map]
  refine h1.imp fun {x y} h => ?_
  have := SrtO.lexB_no.mp h
  show (kOf H x).1 < (kOf H y).1 ∨ ((kOf H x).1 = (kOf H y).1 ∧ (kOf H x).2 ≤ (kOf H y).2)
  omega
/-- cls(..), cls a parameter that holds a class -/
theorem pe_makeL {X : Cx} {CX : CXT} {k i : Nat} {C f : Addr} {fd : FuncData} {ps : List Str} {sp : Sp} {dvs : List V} {ds : List Value} {E : XK} {x : Str} {p pos : Pos} {e : Expr} {es : List Expr} {t : TA}
    (M : Mk X.K C f) (F : FnOk X.prog X.w X.K X.mg X.base CX k f fd ps sp) (hr : Room (k + 1) X.A) (hN : X.N[i]? = some x) (hv : Vis X.env.scope x) (hb : Binds X.K fd ps ds) (hd : Vals dvs ds) (hx : Passes CX X E) (ha : PA X (e :: es) t)
    (hdb : (x == ("__debug__" : Str)) = false := by decide) (hcd : (x == ("__classdict__" : Str)) = false := by decide)
    (he : starEach (e :: es) X.env = (false, eval e X.env) :: starEach es X.env := by rfl) (hpl : (backTo pos (starEach es X.env)).any (·.1) = false := by rfl) :
    PE X (.Call (.Name x p) (e :: es) [] pos) (fun σ H Q => σ[i]? = some (some (.ref C)) ∧ tMake C sp dvs E t σ H Q) := by
  refine ⟨fun pins s σ H Q I ⟨hs, ht⟩ => ?_⟩
  refine wpAny_Call_Name_kw (thn ((pe_var (pos := p) hN hv hdb hcd).run pins s σ H (fun v H1 => v = .ref C ∧ H1 = H) I ⟨.ref C, hs, rfl, rfl⟩) fun u s1 ⟨v, H1, I1, r1, e1, e2⟩ => ?_)
  subst e1 e2
  cases r1
  exact PySem.W.callWith_K (h₀ := X.base) I.ok.mod.kin M.kp (thn (ha.run pos pins s1 σ _ _ I1 ht) fun us s2 ⟨vs, H2, I2, r, q⟩ => ⟨I2.kIn, run_make M F hr hb hd hx I2 r q⟩) he hpl
/-- a count stands at x -/
def CountAt (H : Hp) (C x : Addr) (ds : List (Int × Int)) (rs : List Int) : Prop := ∃ (dx t1 t2 : Addr) (ys : List V), H x = some (.ins C dx [("_cycles", .ref t1), ("_rest", .ref t2)]) ∧ H t1 = some (.tup ys) ∧ PairsAt H ys ds ∧ H t2 = some (.tup (rs.map V.int))
theorem CountAt.same {H H' : Hp} {C x : Addr} {ds : List (Int × Int)} {rs : List Int} (h : CountAt H C x ds rs) (s : Same H H') : CountAt H' C x ds rs := by
  obtain ⟨dx, t1, t2, ys, h1, h2, h3, h4⟩ := h
  exact ⟨dx, t1, t2, ys, s _ _ h1, s _ _ h2, h3.same s, s _ _ h4⟩
/-- what of the text the class has -/
structure Cnt (K : PySem.W.Frag) (C : Addr) : Prop where
  cl : Cls K C
  nC : NoAttr K C "_cycles"
  nR : NoAttr K C "_rest"
theorem pairs_ne {H H' : Hp} {x : Addr} (k : ∀ b o, b ≠ x → H b = some o → H' b = some o) (hx : ∀ o, H x = some o → ∃ C d fs, o = .ins C d fs) : ∀ {xs : List V} {rs : List (Int × Int)}, PairsAt H xs rs → PairsAt H' xs rs
  | [], [], _ => trivial
  | y :: xs, r :: rs, ⟨⟨p, h1, h2⟩, h3⟩ => ⟨⟨p, h1, k p _ (fun z => by
      subst z
      obtain ⟨C, d, fs, e⟩ := hx _ h2
      cases e) h2⟩, pairs_ne k hx h3⟩
  | [], _ :: _, h => h.elim
  | _ :: _, [], h => h.elim
section
variable {P : Program} {w : World} {K : PySem.W.Frag} {mg : Str → Option Value} {base : Heap} {C : Addr}
def spInit (K : PySem.W.Frag) (C : Addr) : Sp := fun vs H Q _ => ∃ (x c r dx : Addr) (xs : List V) (cs : List (Int × Int)) (rs : List Int), vs = [.ref x, .ref c, .ref r] ∧ H x = some (.ins C dx []) ∧ H c = some (.lst xs) ∧ PairsAt H xs cs ∧ H r = some (.lst (rs.map V.int)) ∧
  ∀ H' ds, (∀ b o, b ≠ x → H b = some o → H' b = some o) → CountAt H' C x ds rs → ds.Perm cs → ds.Pairwise Le → Q .non H'
theorem ok_init {f : Addr} {fd : FuncData} {k : Nat} (F : Fun K "__init__" "Count.__init__" sInit f fd) (T : Cnt K C) (ms : mg "sorted" = none) (mt : mg "tuple" = none) : FnOk P w K mg base CX0 (k + 1) f fd ["self", "cycles", "rest"] (spInit K C) := by
  refine F.ok scInit (fun vs H Q E h => ?_) (fun cdv A outer s H vs Q E hr h => ?_)
  · obtain ⟨x, c, r, dx, xs, cs, rs, rfl, _⟩ := h
    rfl
  · obtain ⟨x, c, r, dx, xs, cs, rs, rfl, hx, hc, pa, hrr, hq⟩ := h
    refine ⟨_, pss_cons (ps_fld (pv 0) (pe_callTy call_tuple_of (by rfl) mt (by decide +kernel) (pa_cons (pe_callB cr_sortedPO (by rfl) ms (by decide +kernel) (pa_cons (pv 1) pa_nil)) pa_nil)) rfl)
      (pss_one (ps_fld (pv 0) (pe_callTy call_tuple_of (by rfl) mt (by decide +kernel) (pa_cons (pv 2) pa_nil)) rfl)), ?_⟩
    refine ⟨.ref c, rfl, c, xs, kOf H, rfl, SqL.of hc, (pairs_key pa).2, fun ys p h1 h2 np => ?_⟩
    obtain ⟨ds, pd, perm, srt⟩ := sorted_out pa h1 h2
    refine ⟨p, ys, rfl, .inl ⟨SqL.of upd_same, fun t1 nt1 => ?_⟩⟩
    have s1 : Same H (upd (upd H p (.lst ys)) t1 (.tup ys)) := (same_new np).trans (same_new nt1)
    have g1 := upd_same (H := upd H p (.lst ys)) (a := t1) (o := .tup ys)
    generalize upd (upd H p (.lst ys)) t1 (.tup ys) = H1 at s1 g1 ⊢
    have hx1 := s1 _ _ hx
    refine ⟨.ref x, rfl, x, C, dx, [], rfl, hx1, T.cl, T.nC, by decide, ?_⟩
    have nrx : r ≠ x := fun z => by rw [z, hx] at hrr; cases hrr
    have nt1x : t1 ≠ x := fun z => by rw [z, hx1] at g1; cases g1
    have hr1 : (upd H1 x (.ins C dx (putF "_cycles" (.ref t1) []))) r = some (.lst (rs.map V.int)) := by rw [upd_ne nrx]; exact s1 _ _ hrr
    refine ⟨.ref r, rfl, r, _, rfl, .inl ⟨SqL.of hr1, fun t2 nt2 => ?_⟩⟩
    have nt2x : t2 ≠ x := fun z => by rw [z, upd_same] at nt2; cases nt2
    have hx2 : (upd (upd H1 x (.ins C dx (putF "_cycles" (.ref t1) []))) t2 (.tup (rs.map V.int))) x = some (.ins C dx [("_cycles", .ref t1)]) := by rw [upd_ne nt2x.symm, upd_same]; rfl
    have n12 : t1 ≠ t2 := fun z => by rw [← z, upd_ne nt1x, g1] at nt2; cases nt2
    refine ⟨.ref x, rfl, x, C, dx, [("_cycles", .ref t1)], rfl, hx2, T.cl, T.nR, by show 1 < 1000; decide, ?_⟩
    have keep : ∀ b o, b ≠ x → H b = some o → (upd (upd (upd H1 x (.ins C dx (putF "_cycles" (.ref t1) []))) t2 (.tup (rs.map V.int))) x (.ins C dx (putF "_rest" (.ref t2) [("_cycles", .ref t1)]))) b = some o := fun b o nb e => by
      have e1 := s1 _ _ e
      have nb2 : b ≠ t2 := fun z => by rw [← z, upd_ne nb, e1] at nt2; cases nt2
      rw [upd_ne nb, upd_ne nb2, upd_ne nb]
      exact e1
    refine hq _ ds keep ⟨dx, t1, t2, ys, ?_, ?_, pairs_ne keep (fun o e => by rw [hx] at e; cases e; exact ⟨_, _, _, rfl⟩) pd, ?_⟩ perm srt
    · rw [upd_same]
      rfl
    · rw [upd_ne nt1x, upd_ne n12, upd_ne nt1x]
      exact g1
    · rw [upd_ne nt2x, upd_same]
def spOf (K : PySem.W.Frag) (C : Addr) : Sp := fun vs H Q _ => ∃ (a : Addr) (ns : List Int), vs = [.ref C, .ref a] ∧ Sq K H a (ns.map V.int) ∧ ns.length ≤ 2500 ∧
  ∀ H' x cs ds rs, Same H H' → H x = none → CountAt H' C x ds rs → Run (tp ns) cs rs → NF rs → ds.Perm cs → ds.Pairwise Le → Q (.ref x) H'
theorem ok_of {f fI fO : Addr} {fd fdI fdO : FuncData} {k : Nat} (F : Fun K "of" "Count.of" sOf f fd) (M : Mk K C fI)
    (GI : FnOk P w K mg base CX0 (k + 2) fI fdI ["self", "cycles", "rest"] (spInit K C)) (bI : Binds K fdI ["self", "cycles", "rest"] [])
    (GO : FnOk P w K mg base CX0 (k + 3) fO fdO ["load"] (spCo K)) (gO : mg "_counted" = some (.ref fO)) (kO : PySem.W.keepIn K (.ref fO) = true) (bO : Binds K fdO ["load"] []) : FnOk P w K mg base CX0 (k + 4) f fd ["cls", "load"] (spOf K C) := by
  refine F.ok scOf (fun vs H Q E h => ?_) (fun cdv A outer s H vs Q E hr h => ?_)
  · obtain ⟨a, ns, rfl, _⟩ := h
    rfl
  · obtain ⟨a, ns, rfl, hS, hlen, hq⟩ := h
    refine ⟨_, pss_cons (ps_asg (pe_call GO hr (by rfl) gO kO bO .nil pass0 (pa_cons (pv 1) pa_nil)) (pg_tup rfl (pgs_cons (pg_name (i := 2) scOf.nd rfl (.inl rfl)) (pgs_cons (pg_name (i := 3) scOf.nd rfl (.inl rfl)) pgs_nil))))
      (pss_one (ps_ret (pe_makeL (i := 0) M GI hr rfl (.inl rfl) bI .nil pass0 (pa_cons (pv 2) (pa_cons (pv 3) pa_nil))))), ?_⟩
    refine ⟨.ref a, rfl, a, ns, rfl, hS, hlen, fun H1 p c r xs cs rs s1 np ep ec pa er run nf => ?_⟩
    refine ⟨p, _, rfl, SqT.of ep, rfl, .ref c, [.ref r], rfl, .ref r, [], rfl, rfl, rfl, .ref c, rfl, .ref r, rfl, fun x dx nx ndx ne => ?_⟩
    have s2 : Same H1 (upd (upd H1 dx (.own x)) x (.ins C dx [])) := (same_new ndx).trans (same_new (by rw [upd_ne ne.symm]; exact nx))
    refine ⟨x, c, r, dx, xs, cs, rs, rfl, upd_same, s2 _ _ ec, pa.same s2, s2 _ _ er, fun H' ds keep ca perm srt => ⟨rfl, ?_⟩⟩
    have s3 : Same H1 H' := fun b o e => keep b o (ne_of_none e nx) (s2 _ _ e)
    exact hq H' x cs ds rs (s1.trans s3) (s1.free nx) ca run nf perm srt
def spPC (C : Addr) : Sp := fun vs H Q _ => ∃ (x : Addr) (ds : List (Int × Int)) (rs : List Int), vs = [.ref x] ∧ CountAt H C x ds rs ∧ ∀ t ys, H t = some (.tup ys) → PairsAt H ys ds → Q (.ref t) H
def spPR (C : Addr) : Sp := fun vs H Q _ => ∃ (x : Addr) (ds : List (Int × Int)) (rs : List Int), vs = [.ref x] ∧ CountAt H C x ds rs ∧ ∀ t, H t = some (.tup (rs.map V.int)) → Q (.ref t) H
theorem ok_PC {f : Addr} {fd : FuncData} {k : Nat} (F : Fun K "cycles" "Count.cycles" sPC f fd) (T : Cnt K C) : FnOk P w K mg base CX0 (k + 1) f fd ["self"] (spPC C) := by
  refine F.ok scPC (fun vs H Q E h => ?_) (fun cdv A outer s H vs Q E hr h => ?_)
  · obtain ⟨x, ds, rs, rfl, _⟩ := h
    rfl
  · obtain ⟨x, ds, rs, rfl, ⟨dx, t1, t2, ys, h1, h2, h3, h4⟩, hq⟩ := h
    refine ⟨_, pss_one (ps_ret (pe_fld (pv 0) rfl)), ?_⟩
    exact ⟨.ref x, rfl, x, C, dx, _, .ref t1, rfl, h1, T.cl, T.nC, rfl, hq t1 ys h2 h3⟩
theorem ok_PR {f : Addr} {fd : FuncData} {k : Nat} (F : Fun K "rest" "Count.rest" sPR f fd) (T : Cnt K C) : FnOk P w K mg base CX0 (k + 1) f fd ["self"] (spPR C) := by
  refine F.ok scPR (fun vs H Q E h => ?_) (fun cdv A outer s H vs Q E hr h => ?_)
  · obtain ⟨x, ds, rs, rfl, _⟩ := h
    rfl
  · obtain ⟨x, ds, rs, rfl, ⟨dx, t1, t2, ys, h1, h2, h3, h4⟩, hq⟩ := h
    refine ⟨_, pss_one (ps_ret (pe_fld (pv 0) rfl)), ?_⟩
    exact ⟨.ref x, rfl, x, C, dx, _, .ref t2, rfl, h1, T.cl, T.nR, rfl, hq t2 h4⟩
def spPH (C : Addr) : Sp := fun vs H Q _ => ∃ (x : Addr) (ds : List (Int × Int)) (rs : List Int), vs = [.ref x] ∧ CountAt H C x ds rs ∧ ds.length ≤ 2500 ∧ rs.length ≤ 2500 ∧ ZZ rs ∧ ∀ H' t ys es, Same H H' → H' t = some (.tup ys) → PairsAt H' ys es → es.Perm (ds ++ ds ++ sw rs) → es.Pairwise Le → Q (.ref t) H'
theorem ok_PH {f fS : Addr} {fd fdS : FuncData} {k : Nat} (F : Fun K "half_cycles" "Count.half_cycles" sPH f fd) (T : Cnt K C) (GS : FnOk P w K mg base CX0 (k + 3) fS fdS ["load"] (spSw K)) (gS : mg "swings" = some (.ref fS)) (kS : PySem.W.keepIn K (.ref fS) = true) (bS : Binds K fdS ["load"] [])
    (ms : mg "sorted" = none) (mt : mg "tuple" = none) : FnOk P w K mg base CX0 (k + 4) f fd ["self"] (spPH C) := by
  refine F.ok scPH (fun vs H Q E h => ?_) (fun cdv A outer s H vs Q E hr h => ?_)
  · obtain ⟨x, ds, rs, rfl, _⟩ := h
    rfl
  · obtain ⟨x, ds, rs, rfl, ⟨dx, t1, t2, ys, h1, h2, h3, h4⟩, ld, lr, zz, hq⟩ := h
    refine ⟨_, pss_one (ps_ret (pe_callTy call_tuple_of (by rfl) mt (by decide +kernel) (pa_cons (pe_callB cr_sortedPO (by rfl) ms (by decide +kernel) (pa_cons (pe_lst (StX.pa_star (pe_fld (pv 0) rfl) (StX.pa_star (pe_fld (pv 0) rfl) (StX.pa_star (pe_call GS hr (by rfl) gS kS bS .nil pass0 (pa_cons (pe_fld (pv 0) rfl) pa_nil)) pa_nil)))) pa_nil)) pa_nil))), ?_⟩
    refine ⟨.ref x, rfl, x, C, dx, _, .ref t1, rfl, h1, T.cl, T.nC, rfl, t1, ys, rfl, .inl (SqT.of h2), .ref x, rfl, x, C, dx, _, .ref t1, rfl, h1, T.cl, T.nC, rfl, t1, ys, rfl, .inl (SqT.of h2), .ref x, rfl, x, C, dx, _, .ref t2, rfl, h1, T.cl, T.nR, rfl, t2, rs, rfl, .inr (SqT.of h4), lr, fun H1 p xs s1 np ep pa => ?_⟩
    rw [zz_tp zz] at pa
    have pall : PairsAt H1 (ys ++ (ys ++ (xs ++ []))) (ds ++ ds ++ sw rs) := by
      rw [List.append_nil, List.append_assoc]
      exact (h3.same s1).append ((h3.same s1).append pa)
    refine ⟨p, xs, rfl, .inr (SqL.of ep), ?_, fun l nl => ?_⟩
    · rw [pall.length]
      simp only [List.length_append, sw_len]
      exact Nat.le_trans (show ds.length + ds.length + (rs.length - 1) ≤ 10000 by omega) (by decide)
    have s2 := same_new (o := .lst (ys ++ (ys ++ (xs ++ [])))) nl
    have pl := pall.same s2
    refine ⟨l, _, kOf _, rfl, SqL.of upd_same, (pairs_key pl).2, fun zs q g1 g2 nq => ?_⟩
    obtain ⟨es, pe, perm, srt⟩ := sorted_out pl g1 g2
    refine ⟨q, zs, rfl, .inl ⟨SqL.of upd_same, fun t nt => ?_⟩⟩
    have s3 := (same_new (o := .lst zs) nq).trans (same_new (o := .tup zs) nt)
    exact hq _ t zs es (s1.trans (s2.trans s3)) upd_same (pe.same s3) perm srt
end
end QH

/-! changes of a load, as mathematics -/
namespace KM
/-- how often a letter differs from the one before, the first of all being a -/
def cf : Bool → List Bool → Nat
  | _, [] => 0
  | a, b :: r => (if a = b then 0 else 1) + cf b r
def cnt : List Bool → Nat
  | [] => 0
  | a :: r => cf a r
def cfO : Option Bool → List Bool → Nat
  | none, l => cnt l
  | some a, l => cf a l
/-- the letter of a reading: true for L -/
def lett (lo hi : Int) (r : Int) : Option Bool := if r ≤ lo then some true else if hi ≤ r then some false else none
def lets (lo hi : Int) (ns : List Int) : List Bool := ns.filterMap (lett lo hi)
def chg (ns : List Int) (lo hi : Int) : Nat := cnt (lets lo hi ns)
theorem cf_tri (a b : Bool) : ∀ l : List Bool, cf a l ≤ (if a = b then 0 else 1) + cf b l
  | [] => Nat.zero_le _
  | c :: r => by
    simp only [cf]
    cases a <;> cases b <;> cases c <;> simp <;> omega
theorem cf_mono : ∀ {l m : List Bool}, l.Sublist m → ∀ a, cf a l ≤ cf a m := by
  intro l m h
  induction h with
  | slnil => intro a; exact Nat.le_refl _
  | @cons l m b h ih =>
    intro a
    have h1 := cf_tri a b l
    have h2 := ih b
    simp only [cf]
    omega
  | @cons_cons l m b h ih =>
    intro a
    have h2 := ih b
    simp only [cf]
    omega
theorem cnt_mono : ∀ {l m : List Bool}, l.Sublist m → cnt l ≤ cnt m := by
  intro l m h
  induction h with
  | slnil => exact Nat.le_refl _
  | @cons l m b h ih =>
    cases m with
    | nil =>
      cases h
      exact Nat.le_refl _
    | cons d r =>
      show cnt l ≤ (if b = d then 0 else 1) + cf d r
      have : cnt (d :: r) = cf d r := rfl
      omega
  | @cons_cons l m b h ih => exact cf_mono h b
theorem lets_sub {lo hi lo2 hi2 : Int} (h1 : lo ≤ lo2) (h2 : hi2 ≤ hi) (h3 : lo2 < hi2) : ∀ ns : List Int, (lets lo hi ns).Sublist (lets lo2 hi2 ns)
  | [] => .slnil
  | r :: t => by
    have ih := lets_sub h1 h2 h3 t
    have key : lett lo hi r = none ∨ lett lo hi r = lett lo2 hi2 r := by
      unfold lett
      by_cases a : r ≤ lo
      · right
        rw [if_pos a, if_pos (by omega)]
      · rw [if_neg a]
        by_cases b : hi ≤ r
        · right
          rw [if_pos b, if_neg (by omega), if_pos (by omega)]
        · left
          rw [if_neg b]
    show ((r :: t).filterMap (lett lo hi)).Sublist ((r :: t).filterMap (lett lo2 hi2))
    rw [List.filterMap_cons, List.filterMap_cons]
    rcases key with e | e
    · rw [e]
      dsimp only
      cases lett lo2 hi2 r with
      | none => exact ih
      | some b => exact .cons _ ih
    · rw [← e]
      cases lett lo hi r with
      | none => exact ih
      | some b => exact .cons_cons _ ih
theorem chg_range {lo hi lo2 hi2 : Int} (h1 : lo ≤ lo2) (h2 : hi2 ≤ hi) (h3 : lo2 < hi2) (ns : List Int) : chg ns lo hi ≤ chg ns lo2 hi2 := cnt_mono (lets_sub h1 h2 h3 ns)
theorem chg_sub {l m : List Int} (h : l.Sublist m) (lo hi : Int) : chg l lo hi ≤ chg m lo hi := cnt_mono (h.filterMap _)
theorem chg_put (ns : List Int) (k : Nat) (v lo hi : Int) : chg ns lo hi ≤ chg (ns.take k ++ [v] ++ ns.drop k) lo hi := by
  refine chg_sub ?_ lo hi
  have e : ns = ns.take k ++ ns.drop k := (List.take_append_drop k ns).symm
  have h1 : (ns.take k).Sublist (ns.take k ++ [v]) := List.sublist_append_left _ _
  have h2 := h1.append (List.Sublist.refl (ns.drop k))
  rw [List.take_append_drop] at h2
  exact h2
theorem lets_drop {lo hi : Int} {ns : List Int} {i : Nat} {r : Int} (h : ns[i]? = some r) : lets lo hi (ns.drop i) = (match lett lo hi r with | none => lets lo hi (ns.drop (i + 1)) | some b => b :: lets lo hi (ns.drop (i + 1))) := by
  obtain ⟨h1, h2⟩ := List.getElem?_eq_some_iff.mp h
  rw [List.drop_eq_getElem_cons h1, h2]
  unfold lets
  rw [List.filterMap_cons]
  cases lett lo hi r <;> rfl
theorem lets_take {lo hi : Int} {ns : List Int} {i : Nat} {r : Int} (h : ns[i]? = some r) : lets lo hi (ns.take (i + 1)) = (match lett lo hi r with | none => lets lo hi (ns.take i) | some b => lets lo hi (ns.take i) ++ [b]) := by
  rw [List.take_add_one, h]
  unfold lets
  rw [List.filterMap_append]
  show _ ++ List.filterMap _ [r] = _
  rw [List.filterMap_cons]
  cases lett lo hi r with
  | none => simp
  | some b => rfl
theorem lets_len (lo hi : Int) (ns : List Int) : (lets lo hi ns).length ≤ ns.length := List.length_filterMap_le _ _
/-- the number of turns of a zip with itself, one on, whose two differ -/
theorem cnt_drop {l : List Bool} {i : Nat} {a b : Bool} (h1 : l[i]? = some a) (h2 : l[i + 1]? = some b) : cnt (l.drop i) = (if a = b then 0 else 1) + cnt (l.drop (i + 1)) := by
  obtain ⟨k1, e1⟩ := List.getElem?_eq_some_iff.mp h1
  obtain ⟨k2, e2⟩ := List.getElem?_eq_some_iff.mp h2
  rw [List.drop_eq_getElem_cons k1, e1, List.drop_eq_getElem_cons k2, e2]
  rfl
theorem cnt_end {l : List Bool} {i : Nat} (h : l.length ≤ i + 1) : cnt (l.drop i) = 0 := by
  have : (l.drop i).length ≤ 1 := by rw [List.length_drop]; omega
  match l.drop i, this with
  | [], _ => rfl
  | [_], _ => rfl
end KM

/-! changes decide the half-cycles, as mathematics -/
namespace RC
open KM PM RM RN
/-- a range holds another one -/
def hl (lo hi : Int) (r : Int × Int) : Bool := decide (r.1 ≤ lo) && decide (hi ≤ r.2)
def nh (lo hi : Int) (rs : List (Int × Int)) : Nat := rs.countP (hl lo hi)
def b1 (b : Bool) : Nat := if b = true then 1 else 0
theorem nh_cons (lo hi : Int) (r : Int × Int) (rs : List (Int × Int)) : nh lo hi (r :: rs) = b1 (hl lo hi r) + nh lo hi rs := by
  unfold nh b1
  rw [List.countP_cons]
  omega
theorem nh_app (lo hi : Int) (rs ss : List (Int × Int)) : nh lo hi (rs ++ ss) = nh lo hi rs + nh lo hi ss := List.countP_append
theorem nh_perm {lo hi : Int} {rs ss : List (Int × Int)} (h : rs.Perm ss) : nh lo hi rs = nh lo hi ss := h.countP_eq _
/-- a letter is read, some before -/
def cl (lo hi : Int) (o : Option Bool) (ns : List Int) : Nat := cfO o (lets lo hi ns)
def d2 (o : Option Bool) (b : Bool) : Nat := match o with
  | none => 0
  | some a => if a = b then 0 else 1
theorem cl_nil (lo hi : Int) (o : Option Bool) : cl lo hi o [] = 0 := by cases o <;> rfl
theorem cl_cons (lo hi : Int) (o : Option Bool) (x : Int) (ns : List Int) : cl lo hi o (x :: ns) = match lett lo hi x with
    | none => cl lo hi o ns
    | some b => d2 o b + cl lo hi (some b) ns := by
  unfold cl lets
  rw [List.filterMap_cons]
  cases lett lo hi x with
  | none => rfl
  | some b =>
    cases o with
    | none => show cf b _ = 0 + cf b _; omega
    | some a => rfl
theorem lett_lo {lo hi x : Int} (h : x ≤ lo) : lett lo hi x = some true := if_pos h
theorem lett_hi {lo hi x : Int} (h0 : lo < hi) (h : hi ≤ x) : lett lo hi x = some false := by unfold lett; rw [if_neg (by omega), if_pos h]
theorem lett_no {lo hi x : Int} (h1 : lo < x) (h2 : x < hi) : lett lo hi x = none := by unfold lett; rw [if_neg (by omega), if_neg (by omega)]
theorem lett3 (lo hi x : Int) (h0 : lo < hi) : (x ≤ lo ∧ lett lo hi x = some true) ∨ (hi ≤ x ∧ lett lo hi x = some false) ∨ (lo < x ∧ x < hi ∧ lett lo hi x = none) := by
  by_cases a : x ≤ lo
  · exact .inl ⟨a, lett_lo a⟩
  · by_cases b : hi ≤ x
    · exact .inr (.inl ⟨b, lett_hi h0 b⟩)
    · exact .inr (.inr ⟨by omega, by omega, lett_no (by omega) (by omega)⟩)
theorem hl_iff {lo hi : Int} {a b : Int} : hl lo hi (a, b) = decide (a ≤ lo ∧ hi ≤ b) := by
  unfold hl
  by_cases h1 : a ≤ lo <;> by_cases h2 : hi ≤ b <;> simp [h1, h2]
theorem four_up {lo hi a b c d : Int} (h0 : lo < hi) (post : List Int) (o : Option Bool) (h1 : a ≤ c) (h2 : c < b) (h3 : b ≤ d) : cl lo hi o (a :: b :: c :: d :: post) = cl lo hi o (a :: d :: post) + 2 * b1 (hl lo hi (c, b)) := by
  rw [hl_iff]
  simp only [cl_cons]
  rcases lett3 lo hi a h0 with ⟨x1, e1⟩ | ⟨x1, e1⟩ | ⟨x1, y1, e1⟩ <;> rcases lett3 lo hi b h0 with ⟨x2, e2⟩ | ⟨x2, e2⟩ | ⟨x2, y2, e2⟩ <;> rcases lett3 lo hi c h0 with ⟨x3, e3⟩ | ⟨x3, e3⟩ | ⟨x3, y3, e3⟩ <;> rcases lett3 lo hi d h0 with ⟨x4, e4⟩ | ⟨x4, e4⟩ | ⟨x4, y4, e4⟩ <;> first
    | (exfalso; omega)
    | (rw [decide_eq_true (by omega), e1, e2, e3, e4]; simp only [d2, b1]; cases o with
        | none => simp <;> omega
        | some p => cases p <;> simp <;> omega)
    | (rw [decide_eq_false (by omega), e1, e2, e3, e4]; simp only [d2, b1]; cases o with
        | none => simp
        | some p => cases p <;> simp)
theorem four_down {lo hi a b c d : Int} (h0 : lo < hi) (post : List Int) (o : Option Bool) (h1 : c ≤ a) (h2 : b < c) (h3 : d ≤ b) : cl lo hi o (a :: b :: c :: d :: post) = cl lo hi o (a :: d :: post) + 2 * b1 (hl lo hi (b, c)) := by
  rw [hl_iff]
  simp only [cl_cons]
  rcases lett3 lo hi a h0 with ⟨x1, e1⟩ | ⟨x1, e1⟩ | ⟨x1, y1, e1⟩ <;> rcases lett3 lo hi b h0 with ⟨x2, e2⟩ | ⟨x2, e2⟩ | ⟨x2, y2, e2⟩ <;> rcases lett3 lo hi c h0 with ⟨x3, e3⟩ | ⟨x3, e3⟩ | ⟨x3, y3, e3⟩ <;> rcases lett3 lo hi d h0 with ⟨x4, e4⟩ | ⟨x4, e4⟩ | ⟨x4, y4, e4⟩ <;> first
    | (exfalso; omega)
    | (rw [decide_eq_true (by omega), e1, e2, e3, e4]; simp only [d2, b1]; cases o with
        | none => simp <;> omega
        | some p => cases p <;> simp <;> omega)
    | (rw [decide_eq_false (by omega), e1, e2, e3, e4]; simp only [d2, b1]; cases o with
        | none => simp
        | some p => cases p <;> simp)
theorem cl_step {lo hi : Int} (h0 : lo < hi) {p q : List Int} {c : Int × Int} (h : Step p c q) : ZZ p → ∀ o, cl lo hi o p = cl lo hi o q + 2 * b1 (hl lo hi c) := by
  induction h with
  | @here a b c d post t =>
    intro z o
    rcases (taken_iff z.four).mp t with ⟨x1, x2, x3, x4, x5⟩ | ⟨x1, x2, x3, x4, x5⟩
    · rw [rg_down x2]; exact four_up h0 post o x4 x2 x5
    · rw [rg_up x2]; exact four_down h0 post o x4 x2 x5
  | @there x p q cy s ih =>
    intro z o
    rw [cl_cons, cl_cons]
    cases lett lo hi x with
    | none => exact ih z.tail o
    | some b =>
      have := ih z.tail (some b)
      show d2 o b + cl lo hi (some b) p = d2 o b + cl lo hi (some b) q + _
      omega
theorem cl_run {lo hi : Int} (h0 : lo < hi) {p q : List Int} {cs : List (Int × Int)} (h : Run p cs q) : ZZ p → ∀ o, cl lo hi o p = cl lo hi o q + 2 * nh lo hi cs := by
  induction h with
  | nil p => intro _ o; rfl
  | cons s _ ih =>
    intro z o
    rw [cl_step h0 s z o, ih (ZZ.step s z) o, nh_cons]
    omega
/-! the load and its turning points -/
theorem cl_same {lo hi : Int} (o : Option Bool) (a : Int) (l : List Int) : cl lo hi o (a :: a :: l) = cl lo hi o (a :: l) := by
  simp only [cl_cons]
  cases lett lo hi a with
  | none => rfl
  | some b => simp [d2]
theorem cl_btw {lo hi : Int} (h0 : lo < hi) (o : Option Bool) {b a r : Int} (l : List Int) (h : Btw a b r) : cl lo hi o (b :: a :: r :: l) = cl lo hi o (b :: r :: l) := by
  simp only [cl_cons]
  rcases lett3 lo hi a h0 with ⟨x1, e1⟩ | ⟨x1, e1⟩ | ⟨x1, y1, e1⟩ <;> rcases lett3 lo hi b h0 with ⟨x2, e2⟩ | ⟨x2, e2⟩ | ⟨x2, y2, e2⟩ <;> rcases lett3 lo hi r h0 with ⟨x3, e3⟩ | ⟨x3, e3⟩ | ⟨x3, y3, e3⟩ <;> first
    | (exfalso; omega)
    | (rw [e1, e2, e3]; done)
    | (rw [e1, e2, e3]; cases o with
        | none => simp [d2]
        | some p => cases p <;> simp [d2])
theorem cl_tq {lo hi : Int} (h0 : lo < hi) : ∀ (l : List Int) (o : Option Bool) (b a : Int), cl lo hi o (b :: tq b a l) = cl lo hi o (b :: a :: l)
  | [], _, _, _ => rfl
  | r :: l, o, b, a => by
    simp only [tq]
    by_cases e : a = r
    · rw [if_pos e, cl_tq h0 l o b a, ← e, cl_cons lo hi o b (a :: a :: l), cl_cons lo hi o b (a :: l)]
      cases lett lo hi b with
      | none => exact (cl_same _ _ _).symm
      | some x => exact congrArg _ (cl_same _ _ _).symm
    · rw [if_neg e]
      by_cases bt : Btw a b r
      · rw [if_pos bt, cl_tq h0 l o b r, cl_btw h0 o l bt]
      · rw [if_neg bt, cl_cons lo hi o b (a :: tq a r l), cl_cons lo hi o b (a :: r :: l)]
        cases lett lo hi b with
        | none => exact cl_tq h0 l o a r
        | some x => exact congrArg (d2 o x + ·) (cl_tq h0 l (some x) a r)
theorem cl_ts {lo hi : Int} (h0 : lo < hi) : ∀ (l : List Int) (o : Option Bool) (a : Int), cl lo hi o (ts a l) = cl lo hi o (a :: l)
  | [], _, _ => rfl
  | r :: l, o, a => by
    simp only [ts]
    by_cases e : a = r
    · rw [if_pos e, cl_ts h0 l o a, ← e, cl_same]
    · rw [if_neg e, cl_tq h0 l o a r]
theorem cl_tp {lo hi : Int} (h0 : lo < hi) (ns : List Int) : cl lo hi none (tp ns) = chg ns lo hi := by
  cases ns with
  | nil => rfl
  | cons a l => exact cl_ts h0 l none a
/-! the rest: swings that grow and then shrink -/
def In (u v : Int) (ps : List Int) : Prop := ∀ x ∈ ps, u ≤ x ∧ x ≤ v
/-- each swing within the one before -/
def Con : List Int → Prop
  | x :: y :: z :: r => ((y < x ∧ y < z ∧ z ≤ x) ∨ (x < y ∧ z < y ∧ x ≤ z)) ∧ Con (y :: z :: r)
  | _ => True
theorem Con.inside : ∀ {r : List Int} {x y : Int}, Con (x :: y :: r) → x ≠ y → In (if x < y then x else y) (if x < y then y else x) (x :: y :: r)
  | [], x, y, _, h => by
    intro w hw
    rcases List.mem_cons.mp hw with e | hw
    · subst e; split <;> omega
    · rcases List.mem_cons.mp hw with e | hw
      · subst e; split <;> omega
      · exact absurd hw (List.not_mem_nil)
  | z :: r, x, y, c, h => by
    have ih := Con.inside c.2 (by have := c.1; omega)
    intro w hw
    have c1 := c.1
    rcases List.mem_cons.mp hw with e | hw
    · subst e; split <;> omega
    · have := ih w hw
      by_cases e1 : y < z
      · rw [if_pos e1, if_pos e1] at this
        rw [if_neg (by omega), if_neg (by omega)]
        omega
      · rw [if_neg e1, if_neg e1] at this
        rw [if_pos (by omega), if_pos (by omega)]
        omega
theorem nf_con : ∀ {r : List Int} {x y z : Int}, ZZ (x :: y :: z :: r) → NF (x :: y :: z :: r) → ((y < x ∧ z ≤ x) ∨ (x < y ∧ x ≤ z)) → Con (x :: y :: z :: r)
  | [], x, y, z, zz, _, h => ⟨by have := zz.1; omega, trivial⟩
  | w :: r, x, y, z, zz, n, h => by
    have z1 := zz.1
    have z2 := zz.2.1
    refine ⟨by omega, nf_con zz.2 (fun c q s => n _ _ (.there s)) ?_⟩
    have nt : ¬ Taken x y z w := fun t => n _ _ (.here t)
    rw [taken_iff zz.four] at nt
    omega
theorem one_letter {lo hi : Int} {b : Bool} : ∀ (l : List Int) (o : Option Bool), (o = none ∨ o = some b) → (∀ x ∈ l, lett lo hi x = none ∨ lett lo hi x = some b) → cl lo hi o l = 0
  | [], o, _, _ => cl_nil lo hi o
  | x :: l, o, h1, h2 => by
    have ih := fun o h => one_letter l o h (fun x hx => h2 x (List.mem_cons_of_mem _ hx))
    rw [cl_cons]
    rcases h2 x List.mem_cons_self with e | e
    · rw [e]; exact ih o h1
    · rw [e]
      show d2 o b + cl lo hi (some b) l = 0
      rw [ih _ (.inr rfl)]
      rcases h1 with e | e
      · rw [e]; rfl
      · rw [e]; simp [d2]
theorem con_one {lo hi x y : Int} (h0 : lo < hi) {r : List Int} (h : In (if x < y then x else y) (if x < y then y else x) (x :: y :: r)) (ne : x ≠ y) : cl lo hi none (x :: y :: r) = b1 (hl lo hi (rg x y)) + cl lo hi none (y :: r) := by
  have out : ∀ u v, u < v → In u v (x :: y :: r) → hl lo hi (u, v) = false → cl lo hi none (x :: y :: r) = 0 ∧ cl lo hi none (y :: r) = 0 := by
    intro u v huv hin hn
    rw [hl_iff] at hn
    have hn := of_decide_eq_false hn
    by_cases a : u ≤ lo
    · have hb : v < hi := by omega
      have key : ∀ w ∈ x :: y :: r, lett lo hi w = none ∨ lett lo hi w = some true := fun w hw => by
        have := hin w hw
        rcases lett3 lo hi w h0 with ⟨_, e⟩ | ⟨z, e⟩ | ⟨_, _, e⟩
        · exact .inr e
        · omega
        · exact .inl e
      exact ⟨one_letter _ _ (.inl rfl) key, one_letter _ _ (.inl rfl) fun w hw => key w (List.mem_cons_of_mem _ hw)⟩
    · have key : ∀ w ∈ x :: y :: r, lett lo hi w = none ∨ lett lo hi w = some false := fun w hw => by
        have := hin w hw
        rcases lett3 lo hi w h0 with ⟨z, e⟩ | ⟨z, e⟩ | ⟨_, _, e⟩
        · omega
        · exact .inr e
        · exact .inl e
      exact ⟨one_letter _ _ (.inl rfl) key, one_letter _ _ (.inl rfl) fun w hw => key w (List.mem_cons_of_mem _ hw)⟩
  rcases (show x < y ∨ y < x by omega) with h1 | h1
  · rw [if_pos h1, if_pos h1] at h
    rw [rg_up h1]
    cases e : hl lo hi (x, y) with
    | false => obtain ⟨e1, e2⟩ := out x y h1 h e; rw [e1, e2]; rfl
    | true =>
      rw [hl_iff] at e
      have e := of_decide_eq_true e
      rw [cl_cons lo hi none x, cl_cons lo hi none y, lett_lo e.1, lett_hi h0 e.2]
      show d2 none true + cl lo hi (some true) (y :: r) = b1 true + (d2 none false + cl lo hi (some false) r)
      rw [cl_cons, lett_hi h0 e.2]
      simp [d2, b1]
  · rw [if_neg (by omega), if_neg (by omega)] at h
    rw [rg_down h1]
    cases e : hl lo hi (y, x) with
    | false => obtain ⟨e1, e2⟩ := out y x h1 h e; rw [e1, e2]; rfl
    | true =>
      rw [hl_iff] at e
      have e := of_decide_eq_true e
      rw [cl_cons lo hi none x, cl_cons lo hi none y, lett_lo e.1, lett_hi h0 e.2]
      show d2 none false + cl lo hi (some false) (y :: r) = b1 true + (d2 none true + cl lo hi (some true) r)
      rw [cl_cons, lett_lo e.1]
      simp [d2, b1]
theorem wide_one {lo hi x y z : Int} (h0 : lo < hi) {r : List Int} (h : (y < x ∧ x < z) ∨ (x < y ∧ z < x)) : cl lo hi none (x :: y :: z :: r) = b1 (hl lo hi (rg x y)) + cl lo hi none (y :: z :: r) := by
  rcases h with ⟨h1, h2⟩ | ⟨h1, h2⟩
  · rw [rg_down h1, hl_iff]
    simp only [cl_cons]
    rcases lett3 lo hi x h0 with ⟨x1, e1⟩ | ⟨x1, e1⟩ | ⟨x1, y1, e1⟩ <;> rcases lett3 lo hi y h0 with ⟨x2, e2⟩ | ⟨x2, e2⟩ | ⟨x2, y2, e2⟩ <;> rcases lett3 lo hi z h0 with ⟨x3, e3⟩ | ⟨x3, e3⟩ | ⟨x3, y3, e3⟩ <;> first
      | (exfalso; omega)
      | (rw [decide_eq_true (by omega), e1, e2, e3]; simp [d2, b1]; done)
      | (rw [decide_eq_false (by omega), e1, e2, e3]; simp [d2, b1]; done)
  · rw [rg_up h1, hl_iff]
    simp only [cl_cons]
    rcases lett3 lo hi x h0 with ⟨x1, e1⟩ | ⟨x1, e1⟩ | ⟨x1, y1, e1⟩ <;> rcases lett3 lo hi y h0 with ⟨x2, e2⟩ | ⟨x2, e2⟩ | ⟨x2, y2, e2⟩ <;> rcases lett3 lo hi z h0 with ⟨x3, e3⟩ | ⟨x3, e3⟩ | ⟨x3, y3, e3⟩ <;> first
      | (exfalso; omega)
      | (rw [decide_eq_true (by omega), e1, e2, e3]; simp [d2, b1]; done)
      | (rw [decide_eq_false (by omega), e1, e2, e3]; simp [d2, b1]; done)
theorem nf_nh {lo hi : Int} (h0 : lo < hi) : ∀ (ps : List Int), ZZ ps → NF ps → cl lo hi none ps = nh lo hi (sw ps)
  | [], _, _ => rfl
  | [x], _, _ => by
    rw [cl_cons]
    cases lett lo hi x <;> rfl
  | [x, y], zz, _ => by
    have zz : x ≠ y := zz
    show _ = nh lo hi [rg x y]
    rw [nh_cons, con_one h0 (Con.inside (r := []) (x := x) (y := y) (show Con [x, y] from trivial) zz) zz]
    show _ + cl lo hi none [y] = _ + 0
    rw [cl_cons]
    cases lett lo hi y <;> rfl
  | x :: y :: z :: r, zz, n => by
    have ih := nf_nh h0 (y :: z :: r) zz.2 (fun c q s => n _ _ (.there s))
    show _ = nh lo hi (rg x y :: sw (y :: z :: r))
    rw [nh_cons, ← ih]
    have z1 := zz.1
    by_cases h : (y < x ∧ z ≤ x) ∨ (x < y ∧ x ≤ z)
    · exact con_one h0 (Con.inside (nf_con zz n h) (by omega)) (by omega)
    · exact wide_one h0 (by omega)
/-- the changes of a load are the half-cycles that hold the range -/
theorem chg_count {lo hi : Int} (h0 : lo < hi) {ns rs : List Int} {cs : List (Int × Int)} (h : Run (tp ns) cs rs) (n : NF rs) : chg ns lo hi = 2 * nh lo hi cs + nh lo hi (sw rs) := by
  rw [← cl_tp h0, cl_run h0 h (tp_zz ns), nf_nh h0 rs (h.zz (tp_zz ns)) n]
  omega
/-! just a range: the second difference -/
theorem just_one (lo hi : Int) (r : Int × Int) : b1 (decide (r = (lo, hi))) + b1 (hl (lo - 1) hi r) + b1 (hl lo (hi + 1) r) = b1 (hl lo hi r) + b1 (hl (lo - 1) (hi + 1) r) := by
  obtain ⟨u, v⟩ := r
  simp only [hl_iff]
  have e : decide ((u, v) = (lo, hi)) = decide (u = lo ∧ v = hi) := by simp
  rw [e]
  simp only [b1, decide_eq_true_eq]
  repeat' split
  all_goals omega
theorem just {lo hi : Int} : ∀ rs : List (Int × Int), rs.count (lo, hi) + nh (lo - 1) hi rs + nh lo (hi + 1) rs = nh lo hi rs + nh (lo - 1) (hi + 1) rs
  | [] => rfl
  | r :: rs => by
    have ih := just (lo := lo) (hi := hi) rs
    have h1 := just_one lo hi r
    rw [nh_cons, nh_cons, nh_cons, nh_cons, List.count_cons]
    have e : (if (r == (lo, hi)) = true then 1 else 0) = b1 (decide (r = (lo, hi))) := by
      unfold b1
      by_cases z : r = (lo, hi)
      · simp [z]
      · simp [z]
    rw [e]
    omega
end RC

/-! the half-cycles of two loads are the same exactly if their changes are -/
namespace RE
open KM PM RM RN RC
/-- of a load: its half-cycles, sorted -/
structure Hc (ns : List Int) (es : List (Int × Int)) : Prop where
  ex : ∃ cs ds rs, Run (tp ns) cs rs ∧ NF rs ∧ ds.Perm cs ∧ es.Perm (ds ++ ds ++ sw rs)
  srt : es.Pairwise Le
theorem Hc.chg {ns : List Int} {es : List (Int × Int)} (h : Hc ns es) {lo hi : Int} (h0 : lo < hi) : chg ns lo hi = nh lo hi es := by
  obtain ⟨cs, ds, rs, run, nf, p1, p2⟩ := h.ex
  rw [chg_count h0 run nf, nh_perm p2, nh_app, nh_app, nh_perm p1]
  omega
/-- every half-cycle lies within the readings -/
def InR (u v : Int) (r : Int × Int) : Prop := u ≤ r.1 ∧ r.1 < r.2 ∧ r.2 ≤ v
theorem rg_in {u v a b : Int} (ha : u ≤ a ∧ a ≤ v) (hb : u ≤ b ∧ b ≤ v) (ne : a ≠ b) : InR u v (rg a b) := by
  rcases (show a < b ∨ b < a by omega) with h | h
  · rw [rg_up h]; exact ⟨ha.1, h, hb.2⟩
  · rw [rg_down h]; exact ⟨hb.1, h, ha.2⟩
theorem step_in {u v : Int} {p q : List Int} {c : Int × Int} (h : Step p c q) : ZZ p → (∀ x ∈ p, u ≤ x ∧ x ≤ v) → InR u v c ∧ ∀ x ∈ q, u ≤ x ∧ x ≤ v := by
  induction h with
  | @here a b c d post t =>
    intro z hb
    have z1 := z.1
    refine ⟨rg_in (hb b (by simp)) (hb c (by simp)) (by omega), fun x hx => ?_⟩
    rcases List.mem_cons.mp hx with e | hx
    · exact hb x (by simp [e])
    · rcases List.mem_cons.mp hx with e | hx
      · exact hb x (by simp [e])
      · exact hb x (by simp [hx])
  | @there x p q cy s ih =>
    intro z hb
    obtain ⟨h1, h2⟩ := ih z.tail fun y hy => hb y (List.mem_cons_of_mem _ hy)
    refine ⟨h1, fun y hy => ?_⟩
    rcases List.mem_cons.mp hy with e | hy
    · exact hb y (by simp [e])
    · exact h2 y hy
theorem run_in {u v : Int} {p q : List Int} {cs : List (Int × Int)} (h : Run p cs q) : ZZ p → (∀ x ∈ p, u ≤ x ∧ x ≤ v) → (∀ c ∈ cs, InR u v c) ∧ ∀ x ∈ q, u ≤ x ∧ x ≤ v := by
  induction h with
  | nil p => exact fun _ hb => ⟨fun _ z => (List.not_mem_nil z).elim, hb⟩
  | cons s _ ih =>
    intro z hb
    obtain ⟨h1, h2⟩ := step_in s z hb
    obtain ⟨h3, h4⟩ := ih (ZZ.step s z) h2
    refine ⟨fun c hc => ?_, h4⟩
    rcases List.mem_cons.mp hc with e | hc
    · rw [e]; exact h1
    · exact h3 c hc
theorem sw_in {u v : Int} : ∀ {ps : List Int}, ZZ ps → (∀ x ∈ ps, u ≤ x ∧ x ≤ v) → ∀ r ∈ sw ps, InR u v r
  | [], _, _, r, h => by simp [sw] at h
  | [_], _, _, r, h => by simp [sw] at h
  | x :: y :: l, z, hb, r, h => by
    rcases List.mem_cons.mp (show r ∈ rg x y :: sw (y :: l) from h) with e | h
    · rw [e]; exact rg_in (hb x (by simp)) (hb y (by simp)) (zz_cons z)
    · exact sw_in z.tail (fun w hw => hb w (List.mem_cons_of_mem _ hw)) r h
theorem Hc.inr {u v : Int} {ns : List Int} {es : List (Int × Int)} (h : Hc ns es) (hb : ∀ x ∈ ns, u ≤ x ∧ x ≤ v) : ∀ r ∈ es, InR u v r := by
  obtain ⟨cs, ds, rs, run, nf, p1, p2⟩ := h.ex
  obtain ⟨h1, h2⟩ := run_in run (tp_zz ns) fun x hx => hb x (tp_mem hx)
  intro r hr
  rcases List.mem_append.mp (p2.mem_iff.mp hr) with z | z
  · rcases List.mem_append.mp z with z | z
    · exact h1 r (p1.mem_iff.mp z)
    · exact h1 r (p1.mem_iff.mp z)
  · exact sw_in (run.zz (tp_zz ns)) h2 r z
/-- two loads within u..v -/
theorem same_iff {u v : Int} {ns ms : List Int} {es fs : List (Int × Int)} (h : Hc ns es) (g : Hc ms fs) (hb : ∀ x ∈ ns, u ≤ x ∧ x ≤ v) (gb : ∀ x ∈ ms, u ≤ x ∧ x ≤ v) :
    es = fs ↔ ∀ lo hi : Int, u - 1 ≤ lo → lo < hi → hi ≤ v + 1 → KM.chg ns lo hi = KM.chg ms lo hi := by
  constructor
  · intro e lo hi _ h0 _
    rw [h.chg h0, g.chg h0, e]
  · intro e
    refine sorted_same (List.perm_iff_count.mpr fun r => ?_) h.srt g.srt
    obtain ⟨lo, hi⟩ := r
    by_cases z : u ≤ lo ∧ lo < hi ∧ hi ≤ v
    · have j1 := just (lo := lo) (hi := hi) es
      have j2 := just (lo := lo) (hi := hi) fs
      have k : ∀ a b : Int, u - 1 ≤ a → a < b → b ≤ v + 1 → nh a b es = nh a b fs := fun a b h1 h2 h3 => by rw [← h.chg h2, ← g.chg h2, e a b h1 h2 h3]
      have k1 := k lo hi (by omega) (by omega) (by omega)
      have k2 := k (lo - 1) hi (by omega) (by omega) (by omega)
      have k3 := k lo (hi + 1) (by omega) (by omega) (by omega)
      have k4 := k (lo - 1) (hi + 1) (by omega) (by omega) (by omega)
      omega
    · rw [List.count_eq_zero.mpr fun m => z (show u ≤ lo ∧ lo < hi ∧ hi ≤ v from h.inr hb (lo, hi) m), List.count_eq_zero.mpr fun m => z (show u ≤ lo ∧ lo < hi ∧ hi ≤ v from g.inr gb (lo, hi) m)]
end RE

/-! loads turned round, mapped, repeated, thinned: mathematics -/
namespace K9
open KM PM RM RN RC RE
/-! ### turning points of a load turned round -/
theorem tq_same : ∀ (pre : List Int) (p q x : Int) (post : List Int), tq p q (pre ++ x :: x :: post) = tq p q (pre ++ x :: post)
  | [], p, q, x, post => by
    show tq p q (x :: x :: post) = tq p q (x :: post)
    simp only [tq]
    by_cases e : q = x
    · subst e
      simp only [if_true]
    · rw [if_neg e, if_neg e]
      simp only [if_true]
  | y :: pre, p, q, x, post => by
    show tq p q (y :: (pre ++ x :: x :: post)) = tq p q (y :: (pre ++ x :: post))
    simp only [tq, tq_same pre]
theorem tq_btw0 {p b a r : Int} (post : List Int) (h : Btw a b r) : tq p b (a :: r :: post) = tq p b (r :: post) := by
  have h1 : ¬ b = a := by omega
  have h2 : ¬ b = r := by omega
  have h3 : ¬ a = r := by omega
  simp only [tq]
  rw [if_neg h1, if_neg h2]
  by_cases c : Btw b p a
  · rw [if_pos c, if_neg h3, if_pos (show Btw a p r by omega), if_pos (show Btw b p r by omega)]
  · rw [if_neg c, if_neg (show ¬ Btw b p r by omega)]
    rw [if_neg h3, if_pos h]
theorem tq_btw : ∀ (pre : List Int) (p q b a r : Int) (post : List Int), Btw a b r → tq p q (pre ++ b :: a :: r :: post) = tq p q (pre ++ b :: r :: post)
  | [], p, q, b, a, r, post, h => by
    show tq p q (b :: a :: r :: post) = tq p q (b :: r :: post)
    have k : ∀ s, tq s b (a :: r :: post) = tq s b (r :: post) := fun s => tq_btw0 post h
    rw [tq, k, k]
    rw [tq.eq_2 p q b (r :: post)]
    by_cases e : q = b
    · rw [if_pos e, if_pos e]
      subst e
      exact k p
    · rw [if_neg e, if_neg e]
  | y :: pre, p, q, b, a, r, post, h => by
    show tq p q (y :: (pre ++ b :: a :: r :: post)) = tq p q (y :: (pre ++ b :: r :: post))
    simp only [tq, tq_btw pre _ _ b a r post h]
theorem ts_same : ∀ (pre : List Int) (q x : Int) (post : List Int), ts q (pre ++ x :: x :: post) = ts q (pre ++ x :: post)
  | [], q, x, post => by
    show ts q (x :: x :: post) = ts q (x :: post)
    simp only [ts]
    by_cases e : q = x
    · subst e
      simp only [if_true]
    · rw [if_neg e, if_neg e]
      simp only [tq, if_true]
  | y :: pre, q, x, post => by
    show ts q (y :: (pre ++ x :: x :: post)) = ts q (y :: (pre ++ x :: post))
    simp only [ts, ts_same pre, tq_same pre]
theorem ts_btw0 {b a r : Int} (post : List Int) (h : Btw a b r) : ts b (a :: r :: post) = ts b (r :: post) := by
  simp only [ts]
  rw [if_neg (show ¬ b = a by omega), if_neg (show ¬ b = r by omega)]
  simp only [tq]
  rw [if_neg (show ¬ a = r by omega), if_pos h]
theorem ts_btw : ∀ (pre : List Int) (q b a r : Int) (post : List Int), Btw a b r → ts q (pre ++ b :: a :: r :: post) = ts q (pre ++ b :: r :: post)
  | [], q, b, a, r, post, h => by
    show ts q (b :: a :: r :: post) = ts q (b :: r :: post)
    rw [ts, tq_btw0 post h]
    rw [ts.eq_2 q b (r :: post)]
    by_cases e : q = b
    · rw [if_pos e, if_pos e]
      subst e
      exact ts_btw0 post h
    · rw [if_neg e, if_neg e]
  | y :: pre, q, b, a, r, post, h => by
    show ts q (y :: (pre ++ b :: a :: r :: post)) = ts q (y :: (pre ++ b :: r :: post))
    simp only [ts, ts_btw pre _ b a r post h, tq_btw pre _ _ b a r post h]
theorem tp_same (pre : List Int) (x : Int) (post : List Int) : tp (pre ++ x :: x :: post) = tp (pre ++ x :: post) := by
  cases pre with
  | nil =>
    show ts x (x :: post) = ts x post
    simp only [ts, if_true]
  | cons y pre => exact ts_same pre y x post
theorem tp_btw (pre : List Int) {b a r : Int} (post : List Int) (h : Btw a b r) : tp (pre ++ b :: a :: r :: post) = tp (pre ++ b :: r :: post) := by
  cases pre with
  | nil => exact ts_btw0 post h
  | cons y pre => exact ts_btw pre y b a r post h
/-- a reading left out that is no turning point -/
inductive Red : List Int → List Int → Prop
  | nil (l : List Int) : Red l l
  | same (pre : List Int) (x : Int) (post : List Int) {m : List Int} : Red (pre ++ x :: post) m → Red (pre ++ x :: x :: post) m
  | btw (pre : List Int) {b a r : Int} (post : List Int) {m : List Int} : Btw a b r → Red (pre ++ b :: r :: post) m → Red (pre ++ b :: a :: r :: post) m
theorem Red.tp {l m : List Int} (h : Red l m) : tp l = tp m := by
  induction h with
  | nil l => rfl
  | same pre x post _ ih => rw [tp_same, ih]
  | btw pre post hb _ ih => rw [tp_btw pre post hb, ih]
theorem Red.cons {l m : List Int} (h : Red l m) (y : Int) : Red (y :: l) (y :: m) := by
  induction h with
  | nil l => exact .nil _
  | same pre x post _ ih => exact .same (y :: pre) x post ih
  | btw pre post hb _ ih => exact .btw (y :: pre) post hb ih
theorem Red.trans {l m n : List Int} (h : Red l m) (g : Red m n) : Red l n := by
  induction h with
  | nil l => exact g
  | same pre x post _ ih => exact .same pre x post (ih g)
  | btw pre post hb _ ih => exact .btw pre post hb (ih g)
theorem Red.rev {l m : List Int} (h : Red l m) : Red l.reverse m.reverse := by
  induction h with
  | nil l => exact .nil _
  | same pre x post _ ih =>
    have e1 : (pre ++ x :: x :: post).reverse = post.reverse ++ x :: x :: pre.reverse := by simp
    have e2 : (pre ++ x :: post).reverse = post.reverse ++ x :: pre.reverse := by simp
    rw [e1]
    rw [e2] at ih
    exact .same _ x _ ih
  | @btw pre b a r post m hb _ ih =>
    have e1 : (pre ++ b :: a :: r :: post).reverse = post.reverse ++ r :: a :: b :: pre.reverse := by simp
    have e2 : (pre ++ b :: r :: post).reverse = post.reverse ++ r :: b :: pre.reverse := by simp
    rw [e1]
    rw [e2] at ih
    exact .btw _ _ (by omega) ih
theorem red_tq : ∀ (l : List Int) (b a : Int), Red (b :: a :: l) (b :: tq b a l)
  | [], b, a => .nil _
  | r :: l, b, a => by
    simp only [tq]
    by_cases e : a = r
    · rw [if_pos e]
      subst e
      exact .same [b] a l (red_tq l b a)
    · rw [if_neg e]
      by_cases c : Btw a b r
      · rw [if_pos c]
        exact .btw [] l c (red_tq l b r)
      · rw [if_neg c]
        exact (red_tq l a r).cons b
theorem red_ts : ∀ (l : List Int) (a : Int), Red (a :: l) (ts a l)
  | [], a => .nil _
  | r :: l, a => by
    simp only [ts]
    by_cases e : a = r
    · rw [if_pos e]
      subst e
      exact .same [] a l (red_ts l a)
    · rw [if_neg e]
      exact red_tq l a r
theorem red_tp (ns : List Int) : Red ns (tp ns) := by
  cases ns with
  | nil => exact .nil _
  | cons a l => exact red_ts l a
theorem zz_snoc : ∀ {l : List Int} {a b c : Int}, ZZ (l ++ [a, b]) → ((a < b ∧ c < b) ∨ (b < a ∧ b < c)) → ZZ (l ++ [a, b, c])
  | [], a, b, c, _, h => ⟨h, by show b ≠ c; omega⟩
  | [x], a, b, c, z, h => ⟨z.1, h, by show b ≠ c; omega⟩
  | [x, y], a, b, c, z, h => ⟨z.1, z.2.1, h, by show b ≠ c; omega⟩
  | x :: y :: w :: l, a, b, c, z, h => ⟨z.1, zz_snoc (l := y :: w :: l) z.2 h⟩
theorem zz_rev : ∀ {l : List Int}, ZZ l → ZZ l.reverse
  | [], _ => trivial
  | [x], _ => trivial
  | [x, y], z => fun e => z e.symm
  | x :: y :: w :: l, z => by
    have ih := zz_rev (l := y :: w :: l) z.2
    have e : (x :: y :: w :: l).reverse = l.reverse ++ [w, y, x] := by simp
    have e2 : (y :: w :: l).reverse = l.reverse ++ [w, y] := by simp
    rw [e]
    rw [e2] at ih
    exact zz_snoc ih (by have := z.1; omega)
theorem tp_rev (ns : List Int) : tp ns.reverse = (tp ns).reverse := by
  rw [(red_tp ns).rev.tp, zz_tp (zz_rev (tp_zz ns))]
theorem rg_comm (a b : Int) : rg a b = rg b a := by unfold rg; rw [Prod.mk.injEq]; constructor <;> split <;> split <;> omega
theorem taken_rev {a b c d : Int} (h : Taken a b c d) : Taken d c b a := by
  unfold Taken at *
  rw [rg_comm d c, rg_comm c b, rg_comm b a]
  exact ⟨h.2, h.1⟩
theorem step_rev {p q : List Int} {c : Int × Int} (h : Step p c q) : Step p.reverse c q.reverse := by
  induction h with
  | @here a b c d post t =>
    have e1 : (a :: b :: c :: d :: post).reverse = post.reverse ++ [d, c, b, a] := by simp
    have e2 : (a :: d :: post).reverse = post.reverse ++ [d, a] := by simp
    rw [e1, e2, rg_comm b c]
    exact (Step.here (post := []) (taken_rev t)).prefix _
  | @there x p q cy s ih =>
    rw [List.reverse_cons, List.reverse_cons]
    exact ih.suffix [x]
theorem run_rev {p q : List Int} {cs : List (Int × Int)} (h : Run p cs q) : Run p.reverse cs q.reverse := by
  induction h with
  | nil p => exact .nil _
  | cons s _ ih => exact .cons (step_rev s) ih
theorem nf_rev {p : List Int} (h : NF p) : NF p.reverse := fun c q s => by
  have := step_rev s
  rw [List.reverse_reverse] at this
  exact h _ _ this
/-- one count, its cycles sorted -/
structure Cn (ns : List Int) (ds : List (Int × Int)) (rs : List Int) : Prop where
  ex : ∃ cs, Run (tp ns) cs rs ∧ ds.Perm cs
  nf : NF rs
  srt : ds.Pairwise Le
theorem cn_one {ns ms : List Int} {ds es : List (Int × Int)} {rs ss : List Int} (e : tp ns = tp ms) (h : Cn ns ds rs) (g : Cn ms es ss) : ds = es ∧ rs = ss := by
  obtain ⟨cs, r1, p1⟩ := h.ex
  obtain ⟨cs2, r2, p2⟩ := g.ex
  rw [e] at r1
  obtain ⟨e1, e2⟩ := one_count (tp_zz ms) r1 h.nf r2 g.nf
  exact ⟨sorted_same (p1.trans (e2.trans p2.symm)) h.srt g.srt, e1⟩
theorem cn_rev {ns : List Int} {ds es : List (Int × Int)} {rs ss : List Int} (h : Cn ns ds rs) (g : Cn ns.reverse es ss) : es = ds ∧ ss = rs.reverse := by
  obtain ⟨cs, r1, p1⟩ := h.ex
  obtain ⟨cs2, r2, p2⟩ := g.ex
  have r3 := run_rev r1
  rw [← tp_rev] at r3
  obtain ⟨e1, e2⟩ := one_count (tp_zz _) r2 g.nf r3 (nf_rev h.nf)
  exact ⟨sorted_same (p2.trans (e2.trans p1.symm)) g.srt h.srt, e1⟩
/-! ### a load moved, stretched, negated -/
def Str (f : Int → Int) : Prop := (∀ a b, a < b ↔ f a < f b) ∨ (∀ a b, a < b ↔ f b < f a)
theorem str_eq {f : Int → Int} (h : Str f) (a b : Int) : a = b ↔ f a = f b := by
  rcases h with h | h
  · have h1 := h a b
    have h2 := h b a
    omega
  · have h1 := h a b
    have h2 := h b a
    omega
theorem str_btw {f : Int → Int} (h : Str f) (r b a : Int) : Btw r b a ↔ Btw (f r) (f b) (f a) := by
  unfold Btw
  rcases h with h | h
  · rw [h b r, h r a, h a r, h r b]
  · rw [h b r, h r a, h a r, h r b]
    omega
theorem tq_map {f : Int → Int} (h : Str f) : ∀ (l : List Int) (b a : Int), tq (f b) (f a) (l.map f) = (tq b a l).map f
  | [], _, _ => rfl
  | r :: l, b, a => by
    simp only [tq, List.map_cons]
    by_cases e : a = r
    · rw [if_pos e, if_pos ((str_eq h a r).mp e)]
      exact tq_map h l b a
    · rw [if_neg e, if_neg (fun z => e ((str_eq h a r).mpr z))]
      by_cases c : Btw a b r
      · rw [if_pos c, if_pos ((str_btw h a b r).mp c)]
        exact tq_map h l b r
      · rw [if_neg c, if_neg (fun z => c ((str_btw h a b r).mpr z)), List.map_cons, tq_map h l a r]
theorem ts_map {f : Int → Int} (h : Str f) : ∀ (l : List Int) (a : Int), ts (f a) (l.map f) = (ts a l).map f
  | [], _ => rfl
  | r :: l, a => by
    simp only [ts, List.map_cons]
    by_cases e : a = r
    · rw [if_pos e, if_pos ((str_eq h a r).mp e)]
      exact ts_map h l a
    · rw [if_neg e, if_neg (fun z => e ((str_eq h a r).mpr z)), List.map_cons, tq_map h l a r]
theorem tp_map {f : Int → Int} (h : Str f) (ns : List Int) : tp (ns.map f) = (tp ns).map f := by
  cases ns with
  | nil => rfl
  | cons a l => exact ts_map h l a
def mp (f : Int → Int) (r : Int × Int) : Int × Int := rg (f r.1) (f r.2)
theorem rg_map {f : Int → Int} (h : Str f) (a b : Int) : rg (f a) (f b) = mp f (rg a b) := by
  rcases Int.lt_trichotomy a b with z | z | z
  · unfold mp; rw [rg_up z]
  · subst z
    unfold mp rg
    simp
  · unfold mp; rw [rg_down z, rg_comm]
theorem taken_map {f : Int → Int} (h : Str f) {a b c d : Int} (t : Taken a b c d) : Taken (f a) (f b) (f c) (f d) := by
  unfold Taken at *
  rw [rg_map h a b, rg_map h b c, rg_map h c d]
  have key : ∀ u v x y : Int, u ≤ v → x ≤ y → u ≤ x → y ≤ v → ((mp f (u, v)).1 ≤ (mp f (x, y)).1 ∧ (mp f (x, y)).2 ≤ (mp f (u, v)).2) := by
    intro u v x y h1 h2 h3 h4
    have m : ∀ p q, p ≤ q → (f p ≤ f q ∨ f q ≤ f p) := fun p q _ => Int.le_total _ _
    unfold mp rg
    rcases h with h | h
    · have a1 := h v u; have a2 := h y x; have a3 := h x u; have a4 := h v y
      dsimp only
      repeat' split
      all_goals omega
    · have a1 := h v u; have a2 := h y x; have a3 := h x u; have a4 := h v y
      have a5 := h u v; have a6 := h x y; have a7 := h u x; have a8 := h y v
      dsimp only
      repeat' split
      all_goals omega
  have le : ∀ p q : Int, (rg p q).1 ≤ (rg p q).2 := by
    intro p q
    unfold rg
    dsimp only
    split <;> split <;> omega
  exact ⟨key _ _ _ _ (le a b) (le b c) t.1.1 t.1.2, key _ _ _ _ (le c d) (le b c) t.2.1 t.2.2⟩
theorem taken_back {f : Int → Int} (h : Str f) {a b c d : Int} (t : Taken (f a) (f b) (f c) (f d)) : Taken a b c d := by
  have key : ∀ p q x y : Int, (rg (f p) (f q)).1 ≤ (rg (f x) (f y)).1 ∧ (rg (f x) (f y)).2 ≤ (rg (f p) (f q)).2 → (rg p q).1 ≤ (rg x y).1 ∧ (rg x y).2 ≤ (rg p q).2 := by
    intro p q x y
    unfold rg
    rcases h with h | h
    · have a1 := h p q; have a2 := h q p; have a3 := h x y; have a4 := h y x
      have b1 := h p x; have b2 := h x p; have b3 := h p y; have b4 := h y p
      have c1 := h q x; have c2 := h x q; have c3 := h q y; have c4 := h y q
      dsimp only
      repeat' split
      all_goals omega
    · have a1 := h p q; have a2 := h q p; have a3 := h x y; have a4 := h y x
      have b1 := h p x; have b2 := h x p; have b3 := h p y; have b4 := h y p
      have c1 := h q x; have c2 := h x q; have c3 := h q y; have c4 := h y q
      dsimp only
      repeat' split
      all_goals omega
  exact ⟨key _ _ _ _ t.1, key _ _ _ _ t.2⟩
theorem step_map {f : Int → Int} (h : Str f) {p q : List Int} {c : Int × Int} (s : Step p c q) : Step (p.map f) (mp f c) (q.map f) := by
  induction s with
  | @here a b c d post t =>
    rw [← rg_map h]
    exact .here (taken_map h t)
  | there _ ih => exact .there ih
theorem run_map {f : Int → Int} (h : Str f) {p q : List Int} {cs : List (Int × Int)} (r : Run p cs q) : Run (p.map f) (cs.map (mp f)) (q.map f) := by
  induction r with
  | nil p => exact .nil _
  | cons s _ ih => exact .cons (step_map h s) ih
theorem step_back {f : Int → Int} (h : Str f) {p' q : List Int} {c : Int × Int} (s : Step p' c q) : ∀ {p : List Int}, p' = p.map f → ∃ c' q', Step p c' q' := by
  induction s with
  | @here a b c d post t =>
    intro p e
    match p, e with
    | a' :: b' :: c' :: d' :: post', e =>
      simp only [List.map_cons, List.cons.injEq] at e
      obtain ⟨e1, e2, e3, e4, _⟩ := e
      subst e1 e2 e3 e4
      exact ⟨_, _, .here (taken_back h t)⟩
    | [], e => simp at e
    | [_], e => simp at e
    | [_, _], e => simp at e
    | [_, _, _], e => simp at e
  | @there x p1 q1 cy s ih =>
    intro p e
    match p, e with
    | x' :: p', e =>
      rw [List.map_cons] at e
      obtain ⟨c', q', s'⟩ := ih (List.cons.inj e).2
      exact ⟨c', _, .there s'⟩
    | [], e => simp at e
theorem nf_map {f : Int → Int} (h : Str f) {p : List Int} (n : NF p) : NF (p.map f) := fun c q s => by
  obtain ⟨c', q', s'⟩ := step_back h s rfl
  exact n _ _ s'
theorem cn_map {f : Int → Int} (h : Str f) {ns : List Int} {ds es fs : List (Int × Int)} {rs ss : List Int} (g : Cn ns ds rs) (k : Cn (ns.map f) es ss) (p : fs.Perm (ds.map (mp f))) (srt : fs.Pairwise Le) : es = fs ∧ ss = rs.map f := by
  obtain ⟨cs, r1, p1⟩ := g.ex
  obtain ⟨cs2, r2, p2⟩ := k.ex
  have r3 := run_map h r1
  rw [← tp_map h] at r3
  obtain ⟨e1, e2⟩ := one_count (tp_zz _) r2 k.nf r3 (nf_map h g.nf)
  exact ⟨sorted_same (p2.trans (e2.trans ((p1.symm.map _).trans p.symm))) k.srt srt, e1⟩
theorem str_aff {s t : Int} (h : s ≠ 0) : Str fun x => x * s + t := by
  rcases (show 0 < s ∨ s < 0 by omega) with z | z
  · refine .inl fun a b => ?_
    have := Int.mul_lt_mul_right (a := s) (b := a) (c := b) z
    dsimp only
    omega
  · refine .inr fun a b => ?_
    have := Int.mul_lt_mul_right (a := -s) (b := a) (c := b) (by omega)
    rw [Int.mul_neg, Int.mul_neg] at this
    dsimp only
    omega
/-! ### readings repeated -/
theorem tp_rep : ∀ (m : Nat) (pre : List Int) (x : Int), tp (pre ++ List.replicate (m + 1) x) = tp (pre ++ [x])
  | 0, pre, x => rfl
  | m + 1, pre, x => by
    have := tp_same pre x (List.replicate m x)
    rw [show pre ++ List.replicate (m + 1 + 1) x = pre ++ x :: x :: List.replicate m x from rfl, this]
    exact tp_rep m pre x
theorem red_app {l m : List Int} (n : List Int) (h : Red l m) : Red (l ++ n) (m ++ n) := by
  induction h with
  | nil l => exact .nil _
  | same pre x post _ ih =>
    rw [List.append_assoc] at ih ⊢
    exact .same pre x _ ih
  | btw pre post hb _ ih =>
    rw [List.append_assoc] at ih ⊢
    exact .btw pre _ hb ih
/-- what the beginning is, is of no matter if its turning points are the same -/
theorem tp_pre {l m : List Int} (h : tp l = tp m) (n : List Int) : tp (l ++ n) = tp (m ++ n) := by
  rw [(red_app n (red_tp l)).tp, (red_app n (red_tp m)).tp, h]
theorem tp_twice {l m : List Int} (h : tp l = tp m) (k : Nat) (x : Int) : tp (l ++ List.replicate (k + 1) x) = tp (m ++ [x]) := by
  rw [tp_rep, tp_pre h]
/-! ### an upper point lowered -/
theorem cl_sub {lo hi : Int} {l m : List Int} (h : l.Sublist m) (o : Option Bool) : cl lo hi o l ≤ cl lo hi o m := by
  unfold cl
  have h2 : (lets lo hi l).Sublist (lets lo hi m) := h.filterMap _
  cases o with
  | none => exact cnt_mono h2
  | some b => exact cf_mono h2 b
/-- v lies between x and n -/
def Mid (x v n : Int) : Prop := (x ≤ v ∧ v ≤ n) ∨ (n ≤ v ∧ v ≤ x)
theorem mid_let {lo hi x v n : Int} {b : Bool} (h0 : lo < hi) (h : Mid x v n) (e1 : lett lo hi v = some b) (e2 : lett lo hi x ≠ some b) : lett lo hi n = some b := by
  unfold Mid at h
  rcases lett3 lo hi v h0 with ⟨z, e⟩ | ⟨z, e⟩ | ⟨_, _, e⟩ <;> rw [e] at e1 <;> cases e1
  · rcases lett3 lo hi x h0 with ⟨y, e⟩ | ⟨y, e⟩ | ⟨y, y2, e⟩
    · exact absurd e e2
    · exact lett_lo (by omega)
    · exact lett_lo (by omega)
  · rcases lett3 lo hi x h0 with ⟨y, e⟩ | ⟨y, e⟩ | ⟨y, y2, e⟩
    · exact lett_hi h0 (by omega)
    · exact absurd e e2
    · exact lett_hi h0 (by omega)
theorem cl_put {lo hi x v : Int} (h0 : lo < hi) (r : List Int) (hr : ∀ c, r.head? = some c → Mid x v c) (o : Option Bool) (ho : ∀ b, lett lo hi v = some b → lett lo hi x ≠ some b → o = none ∨ o = some b) : cl lo hi o (v :: r) ≤ cl lo hi o (x :: r) := by
  by_cases e : lett lo hi v = lett lo hi x
  · rw [cl_cons, cl_cons, e]
    exact Nat.le_refl _
  · cases ev : lett lo hi v with
    | none =>
      rw [cl_cons, ev]
      exact cl_sub (List.sublist_cons_self _ _) o
    | some b =>
      have ex : lett lo hi x ≠ some b := fun z => e (ev.trans z.symm)
      have d0 : d2 o b = 0 := by
        rcases ho b ev ex with z | z
        · rw [z]; rfl
        · rw [z]; simp [d2]
      rw [cl_cons, ev]
      show d2 o b + cl lo hi (some b) r ≤ _
      rw [d0, Nat.zero_add]
      cases r with
      | nil => rw [cl_nil]; exact Nat.zero_le _
      | cons c r =>
        have ec := mid_let h0 (hr c rfl) ev ex
        have k : cl lo hi o (c :: r) ≤ cl lo hi o (x :: c :: r) := cl_sub (List.sublist_cons_self _ _) o
        refine Nat.le_trans ?_ k
        rw [cl_cons, cl_cons, ec]
        show d2 (some b) b + _ ≤ d2 o b + _
        rw [d0]
        simp [d2]
theorem cl_put_at {lo hi x v : Int} (h0 : lo < hi) (r : List Int) (hr : ∀ c, r.head? = some c → Mid x v c) : ∀ (pre : List Int) (o : Option Bool), (∀ a, pre.getLast? = some a → Mid x v a) → (pre = [] → ∀ b, lett lo hi v = some b → lett lo hi x ≠ some b → o = none ∨ o = some b) → cl lo hi o (pre ++ v :: r) ≤ cl lo hi o (pre ++ x :: r)
  | [], o, _, ho => cl_put h0 r hr o (ho rfl)
  | p :: pre, o, hp, _ => by
    have key : ∀ o', (pre = [] → ∀ b, lett lo hi v = some b → lett lo hi x ≠ some b → o' = none ∨ o' = some b) → cl lo hi o' (pre ++ v :: r) ≤ cl lo hi o' (pre ++ x :: r) := fun o' h' =>
      cl_put_at h0 r hr pre o' (fun a ha => hp a (by
        cases pre with
        | nil => cases ha
        | cons q pre => rw [List.getLast?_cons_cons]; exact ha)) h'
    show cl lo hi o (p :: (pre ++ v :: r)) ≤ cl lo hi o (p :: (pre ++ x :: r))
    rw [cl_cons, cl_cons]
    cases e : lett lo hi p with
    | none =>
      refine key o fun e0 b h1 h2 => ?_
      subst e0
      have := mid_let h0 (hp p rfl) h1 h2
      rw [e] at this
      cases this
    | some b' =>
      refine Nat.add_le_add_left (key _ fun e0 b h1 h2 => .inr ?_) _
      subst e0
      have := mid_let h0 (hp p rfl) h1 h2
      rw [e] at this
      exact this
theorem chg_put_at {lo hi x v : Int} (h0 : lo < hi) {pre r : List Int} (hp : ∀ a, pre.getLast? = some a → Mid x v a) (hr : ∀ c, r.head? = some c → Mid x v c) : chg (pre ++ v :: r) lo hi ≤ chg (pre ++ x :: r) lo hi :=
  cl_put_at h0 r hr pre none hp fun _ _ _ _ => .inl rfl
theorem chg_tp {lo hi : Int} (h0 : lo < hi) (ns : List Int) : chg (tp ns) lo hi = chg ns lo hi := cl_tp h0 ns
theorem zz_three : ∀ {ps : List Int} {j : Nat} {a x c : Int}, ZZ ps → ps[j]? = some a → ps[j + 1]? = some x → ps[j + 2]? = some c → (a < x ∧ c < x) ∨ (x < a ∧ x < c)
  | p :: q :: r :: l, 0, a, x, c, z, h1, h2, h3 => by
    have e1 : p = a := Option.some.inj h1
    have e2 : q = x := Option.some.inj h2
    have e3 : r = c := Option.some.inj h3
    subst e1 e2 e3
    have := z.1
    omega
  | p :: l, j + 1, a, x, c, z, h1, h2, h3 => zz_three (ps := l) (j := j) z.tail h1 h2 h3
  | [], _, _, _, _, _, h, _, _ => by simp at h
  | [_], 0, _, _, _, _, _, h, _ => by simp at h
  | [_, _], 0, _, _, _, _, _, _, h => by simp at h
theorem zz_two : ∀ {ps : List Int} {j : Nat} {a x : Int}, ZZ ps → ps[j]? = some a → ps[j + 1]? = some x → a ≠ x
  | p :: q :: l, 0, a, x, z, h1, h2 => by
    have e1 : p = a := Option.some.inj h1
    have e2 : q = x := Option.some.inj h2
    subst e1 e2
    exact zz_cons z
  | p :: l, j + 1, a, x, z, h1, h2 => zz_two (ps := l) (j := j) z.tail h1 h2
  | [], _, _, _, _, h, _ => by simp at h
  | [_], 0, _, _, _, _, h => by simp at h
/-- near is a neighbour of the point at j, the nearer one -/
def Near (ps : List Int) (j : Nat) (x near : Int) : Prop :=
  (∀ a, 0 < j → ps[j - 1]? = some a → (near - x).natAbs ≤ (a - x).natAbs) ∧ (∀ c, ps[j + 1]? = some c → (near - x).natAbs ≤ (c - x).natAbs) ∧ ((0 < j ∧ ps[j - 1]? = some near) ∨ ps[j + 1]? = some near)
theorem near_mid {ps : List Int} {j : Nat} {x near v : Int} (zz : ZZ ps) (hx : ps[j]? = some x) (hn : Near ps j x near) (hv : Mid x v near) : (∀ a, 0 < j → ps[j - 1]? = some a → Mid x v a) ∧ (∀ c, ps[j + 1]? = some c → Mid x v c) := by
  obtain ⟨n1, n2, n3⟩ := hn
  unfold Mid at *
  refine ⟨fun a hj ha => ?_, fun c hc => ?_⟩
  · have d := n1 a hj ha
    rcases n3 with ⟨_, e⟩ | e
    · rw [ha] at e
      cases e
      exact hv
    · obtain ⟨i, rfl⟩ : ∃ i, j = i + 1 := ⟨j - 1, by omega⟩
      have := zz_three zz ha hx e
      omega
  · have d := n2 c hc
    rcases n3 with ⟨hj, e⟩ | e
    · obtain ⟨i, rfl⟩ : ∃ i, j = i + 1 := ⟨j - 1, by omega⟩
      have := zz_three zz e hx hc
      omega
    · rw [hc] at e
      cases e
      exact hv
theorem lowered {lo hi : Int} (h0 : lo < hi) {ns : List Int} {j : Nat} {x near v : Int} (hx : (tp ns)[j]? = some x) (hn : Near (tp ns) j x near) (hv : Mid x v near) : chg ((tp ns).set j v) lo hi ≤ chg ns lo hi := by
  rw [← chg_tp h0 ns]
  generalize hp : tp ns = ps at *
  have zz : ZZ ps := hp ▸ tp_zz ns
  obtain ⟨m1, m2⟩ := near_mid zz hx hn hv
  obtain ⟨hj, ex⟩ := List.getElem?_eq_some_iff.mp hx
  have e1 : ps.set j v = ps.take j ++ v :: ps.drop (j + 1) := by rw [List.set_eq_take_append_cons_drop, if_pos hj]
  have e2 : ps.take j ++ x :: ps.drop (j + 1) = ps := by
    rw [← ex, ← List.drop_eq_getElem_cons hj, List.take_append_drop]
  rw [e1]
  refine Nat.le_trans (chg_put_at h0 (x := x) (v := v) (fun a ha => ?_) (fun c hc => ?_)) (Nat.le_of_eq (by rw [e2]))
  · rw [List.getLast?_eq_getElem?, List.length_take, Nat.min_eq_left (by omega)] at ha
    by_cases z : 0 < j
    · rw [List.getElem?_take] at ha
      rw [if_pos (by omega)] at ha
      exact m1 a z ha
    · have : j = 0 := by omega
      subst this
      simp at ha
  · rw [List.head?_drop] at hc
    exact m2 c hc
theorem sort_two {ms : List Int} {u v : Int} (p : ms.Perm [u, v]) (s : ms.Pairwise (· ≤ ·)) : ms = [(rg u v).1, (rg u v).2] := by
  have hl := p.length_eq
  match ms, hl with
  | [a, b], _ =>
    have h1 := (p.mem_iff (a := a)).mp (by simp)
    have h2 := (p.mem_iff (a := b)).mp (by simp)
    have h3 := (p.mem_iff (a := u)).mpr (by simp)
    have h4 := (p.mem_iff (a := v)).mpr (by simp)
    simp only [List.mem_cons, List.not_mem_nil, or_false] at h1 h2 h3 h4
    have h5 : a ≤ b := by simpa using s
    unfold rg
    dsimp only
    have e1 : a = if v < u then v else u := by split <;> omega
    have e2 : b = if v > u then v else u := by split <;> omega
    rw [← e1, ← e2]
end K9

/-! loads repeated for ever: mathematics -/
namespace K20
open KM PM RM RN RC RE K9
/-! ### changes round the circle -/
def dif (a b : Option Bool) : Nat := match a, b with
  | some x, some y => if x = y then 0 else 1
  | _, _ => 0
/-- the number of letters that differ from the one before, round the circle -/
def cyc (l : List Bool) : Nat := cnt l + dif l.getLast? l.head?
theorem cf_app : ∀ (l : List Bool) (a : Bool) (m : List Bool), cf a (l ++ m) = cf a l + cfO (some ((a :: l).getLast (by simp))) m
  | [], a, m => by show cf a m = 0 + cf a m; omega
  | b :: l, a, m => by
    have ih := cf_app l b m
    show (if a = b then 0 else 1) + cf b (l ++ m) = (if a = b then 0 else 1) + cf b l + cfO (some ((a :: b :: l).getLast (by simp))) m
    rw [ih, List.getLast_cons (a := a) (l := b :: l) (by simp)]
    omega
theorem cnt_app (l m : List Bool) : cnt (l ++ m) = cnt l + dif l.getLast? m.head? + cnt m := by
  cases l with
  | nil => show cnt m = 0 + 0 + cnt m; omega
  | cons a l =>
    show cf a (l ++ m) = cf a l + _ + cnt m
    rw [cf_app]
    rw [List.getLast?_eq_some_getLast (l := a :: l) (by simp)]
    cases m with
    | nil => rfl
    | cons b m =>
      show cf a l + ((if (a :: l).getLast (by simp) = b then 0 else 1) + cf b m) = cf a l + (if (a :: l).getLast (by simp) = b then 0 else 1) + cf b m
      omega
theorem cyc_rot (l m : List Bool) : cyc (l ++ m) = cyc (m ++ l) := by
  unfold cyc
  rw [cnt_app, cnt_app]
  cases l with
  | nil => simp [dif, cnt]
  | cons a l =>
    cases m with
    | nil => simp [dif, cnt]
    | cons b m =>
      have e1 : ((a :: l) ++ (b :: m)).getLast? = (b :: m).getLast? := by rw [List.getLast?_append]; rw [List.getLast?_eq_some_getLast (l := b :: m) (by simp)]; rfl
      have e2 : ((b :: m) ++ (a :: l)).getLast? = (a :: l).getLast? := by rw [List.getLast?_append]; rw [List.getLast?_eq_some_getLast (l := a :: l) (by simp)]; rfl
      rw [e1, e2]
      show _ + dif _ (some b) + _ + dif _ (some a) = _ + dif _ (some a) + _ + dif _ (some b)
      omega
def rnd (lo hi : Int) (ns : List Int) : Nat := cyc (lets lo hi ns)
theorem lets_app (lo hi : Int) (l m : List Int) : lets lo hi (l ++ m) = lets lo hi l ++ lets lo hi m := List.filterMap_append
theorem rnd_rot (lo hi : Int) (l m : List Int) : rnd lo hi (l ++ m) = rnd lo hi (m ++ l) := by
  unfold rnd
  rw [lets_app, lets_app, cyc_rot]
theorem cnt_one : ∀ {l : List Bool} {b : Bool}, (∀ x ∈ l, x = b) → cnt l = 0
  | [], _, _ => rfl
  | [_], _, _ => rfl
  | x :: y :: l, b, h => by
    have ih := cnt_one (l := y :: l) (b := b) fun z hz => h z (List.mem_cons_of_mem _ hz)
    have e1 := h x (by simp)
    have e2 := h y (by simp)
    show (if x = y then 0 else 1) + cf y l = 0
    have ih : cf y l = 0 := ih
    rw [ih, e1, e2, if_pos rfl]
theorem cyc_one {l : List Bool} {b : Bool} (h : ∀ x ∈ l, x = b) : cyc l = 0 := by
  unfold cyc
  rw [cnt_one h]
  cases l with
  | nil => rfl
  | cons a l =>
    rw [List.getLast?_eq_some_getLast (l := a :: l) (by simp)]
    show 0 + (if (a :: l).getLast (by simp) = a then 0 else 1) = 0
    rw [h _ (List.getLast_mem (by simp)), h a (by simp), if_pos rfl]
theorem lets_mem {lo hi : Int} {ns : List Int} {b : Bool} (h : b ∈ lets lo hi ns) : ∃ x ∈ ns, lett lo hi x = some b := List.mem_filterMap.mp h
/-- a load that begins with a greatest reading, and the same behind it -/
theorem rnd_chg {lo hi M : Int} (h0 : lo < hi) {l : List Int} (hm : ∀ x ∈ l, x ≤ M) : rnd lo hi (M :: l) = chg (M :: l ++ [M]) lo hi := by
  unfold rnd chg
  rw [lets_app]
  rcases lett3 lo hi M h0 with ⟨_, e⟩ | ⟨_, e⟩ | ⟨h1, h2, e⟩
  · have el : lets lo hi [M] = [true] := by simp [lets, e]
    have ec : lets lo hi (M :: l) = true :: lets lo hi l := by simp [lets, e]
    rw [el, ec, cnt_app]
    unfold cyc
    rfl
  · have el : lets lo hi [M] = [false] := by simp [lets, e]
    have ec : lets lo hi (M :: l) = false :: lets lo hi l := by simp [lets, e]
    rw [el, ec, cnt_app]
    unfold cyc
    rfl
  · have el : lets lo hi [M] = [] := by simp [lets, e]
    have one : ∀ b ∈ lets lo hi (M :: l), b = true := fun b hb => by
      obtain ⟨x, hx, ex⟩ := lets_mem hb
      have : x ≤ M := by
        rcases List.mem_cons.mp hx with z | z
        · omega
        · exact hm x z
      rcases lett3 lo hi x h0 with ⟨_, e⟩ | ⟨_, e⟩ | ⟨_, _, e⟩ <;> rw [e] at ex
      · exact (Option.some.inj ex).symm
      · omega
      · cases ex
    rw [el, List.append_nil, cyc_one one, cnt_one one]
/-! ### the circle -/
/-- M is the greatest reading, at a for the first time -/
structure Top (ns : List Int) (a : Nat) (M : Int) : Prop where
  at' : ns[a]? = some M
  le : ∀ x ∈ ns, x ≤ M
  first : ∀ j x, j < a → ns[j]? = some x → x ≠ M
theorem Top.one {ns : List Int} {a b : Nat} {M N : Int} (h : Top ns a M) (g : Top ns b N) : a = b ∧ M = N := by
  have e : M = N := by
    have h1 := h.le N (List.mem_of_getElem? g.at')
    have h2 := g.le M (List.mem_of_getElem? h.at')
    omega
  subst e
  refine ⟨?_, rfl⟩
  rcases Nat.lt_trichotomy a b with z | z | z
  · exact absurd rfl (g.first a M z h.at')
  · exact z
  · exact absurd rfl (h.first b M z g.at')
def circ (ns : List Int) (a : Nat) : List Int := ns.drop a ++ ns.take (a + 1)
theorem circ_eq {ns : List Int} {a : Nat} {M : Int} (h : ns[a]? = some M) : circ ns a = M :: (ns.drop (a + 1) ++ ns.take a) ++ [M] := by
  obtain ⟨h1, h2⟩ := List.getElem?_eq_some_iff.mp h
  unfold circ
  rw [List.drop_eq_getElem_cons h1, h2, List.take_add_one, h]
  simp
theorem rnd_circ {lo hi M : Int} (h0 : lo < hi) {ns : List Int} {a : Nat} (t : Top ns a M) : rnd lo hi ns = chg (circ ns a) lo hi := by
  obtain ⟨h1, h2⟩ := List.getElem?_eq_some_iff.mp t.at'
  have e : rnd lo hi ns = rnd lo hi (M :: (ns.drop (a + 1) ++ ns.take a)) := by
    have := rnd_rot lo hi (ns.take a) (ns.drop a)
    rw [List.take_append_drop] at this
    rw [this, List.drop_eq_getElem_cons h1, h2]
    rfl
  rw [e, circ_eq t.at', rnd_chg h0]
  intro x hx
  rcases List.mem_append.mp hx with z | z
  · exact t.le x (List.mem_of_mem_drop z)
  · exact t.le x (List.mem_of_mem_take z)
theorem circ_mem {ns : List Int} {a : Nat} {x : Int} (h : x ∈ circ ns a) : x ∈ ns := by
  rcases List.mem_append.mp h with z | z
  · exact List.mem_of_mem_drop z
  · exact List.mem_of_mem_take z
theorem mem_circ {ns : List Int} {a : Nat} {x : Int} (h : x ∈ ns) : x ∈ circ ns a := by
  have e : ns.take a ++ ns.drop a = ns := List.take_append_drop _ _
  rw [← e] at h
  rcases List.mem_append.mp h with z | z
  · refine List.mem_append_right _ ?_
    rw [List.take_add_one]
    exact List.mem_append_left _ z
  · exact List.mem_append_left _ z
/-! ### first and last points -/
theorem ts_head : ∀ (l : List Int) (a : Int), (ts a l).head? = some a
  | [], _ => rfl
  | r :: l, a => by
    simp only [ts]
    split
    · exact ts_head l a
    · rfl
theorem tq_ne : ∀ (l : List Int) (b a : Int), tq b a l ≠ []
  | [], _, _ => by simp [tq]
  | r :: l, b, a => by
    simp only [tq]
    split
    · exact tq_ne l b a
    · split
      · exact tq_ne l b r
      · simp
theorem tq_lastp : ∀ (l : List Int) (b a : Int), (tq b a l).getLast? = (a :: l).getLast?
  | [], _, _ => rfl
  | r :: l, b, a => by
    rw [List.getLast?_cons_cons]
    simp only [tq]
    split
    · rename_i e
      rw [tq_lastp l b a, e]
    · split
      · exact tq_lastp l b r
      · rename_i n1 n2
        have ne := tq_ne l a r
        obtain ⟨x, s, e⟩ : ∃ x s, tq a r l = x :: s := by
          cases h : tq a r l with
          | nil => exact absurd h ne
          | cons x s => exact ⟨x, s, rfl⟩
        rw [e, List.getLast?_cons_cons, ← e]
        exact tq_lastp l a r
theorem ts_lastp : ∀ (l : List Int) (a : Int), (ts a l).getLast? = (a :: l).getLast?
  | [], _ => rfl
  | r :: l, a => by
    rw [List.getLast?_cons_cons]
    simp only [ts]
    split
    · rename_i e
      rw [ts_lastp l a, e]
    · have ne := tq_ne l a r
      obtain ⟨x, s, e⟩ : ∃ x s, tq a r l = x :: s := by
        cases h : tq a r l with
        | nil => exact absurd h ne
        | cons x s => exact ⟨x, s, rfl⟩
      rw [e, List.getLast?_cons_cons, ← e]
      exact tq_lastp l a r
theorem ts_all : ∀ {l : List Int} {a : Int}, (∀ x ∈ l, x = a) → ts a l = [a]
  | [], _, _ => rfl
  | r :: l, a, h => by
    simp only [ts]
    rw [if_pos (h r (by simp)).symm]
    exact ts_all fun x hx => h x (List.mem_cons_of_mem _ hx)
theorem ts_one : ∀ {l : List Int} {a : Int}, ts a l = [a] → ∀ x ∈ l, x = a
  | [], _, _, x, h => (List.not_mem_nil h).elim
  | r :: l, a, h, x, hx => by
    simp only [ts] at h
    by_cases e : a = r
    · rw [if_pos e] at h
      rcases List.mem_cons.mp hx with z | z
      · rw [z, e]
      · exact ts_one h x z
    · rw [if_neg e] at h
      exact absurd (List.cons.inj h).2 (tq_ne _ _ _)
theorem step_head? {p q : List Int} {c : Int × Int} (s : Step p c q) : q.head? = p.head? := by
  cases s with
  | here _ => rfl
  | there _ => rfl
theorem step_ne {p q : List Int} {c : Int × Int} (s : Step p c q) : q ≠ [] := by
  cases s with
  | here _ => simp
  | there _ => simp
theorem step_last? {p q : List Int} {c : Int × Int} (s : Step p c q) : q.getLast? = p.getLast? := by
  induction s with
  | @here a b c d post t => rw [List.getLast?_cons_cons, List.getLast?_cons_cons, List.getLast?_cons_cons, List.getLast?_cons_cons]
  | @there x p q cy s ih =>
    cases q with
    | nil => exact absurd rfl (step_ne s)
    | cons u v =>
      cases p with
      | nil => cases s
      | cons u' v' => rw [List.getLast?_cons_cons, List.getLast?_cons_cons, ih]
theorem step_sub {p q : List Int} {c : Int × Int} (s : Step p c q) : ∀ x ∈ q, x ∈ p := by
  induction s with
  | @here a b c d post t =>
    intro x hx
    simp only [List.mem_cons] at hx ⊢
    rcases hx with e | e | e
    · exact .inl e
    · exact .inr (.inr (.inr (.inl e)))
    · exact .inr (.inr (.inr (.inr e)))
  | there _ ih =>
    intro y hy
    rcases List.mem_cons.mp hy with e | e
    · exact List.mem_cons.mpr (.inl e)
    · exact List.mem_cons_of_mem _ (ih y e)
theorem step_low {p q : List Int} {c : Int × Int} (s : Step p c q) : ZZ p → ∀ x ∈ p, ∃ y ∈ q, y ≤ x := by
  induction s with
  | @here a b c d post t =>
    intro z x hx
    have ti := (taken_iff z.four).mp t
    simp only [List.mem_cons] at hx
    rcases hx with e | e | e | e | e
    · exact ⟨a, by simp, by omega⟩
    · rcases ti with ti | ti
      · exact ⟨a, by simp, by omega⟩
      · exact ⟨d, by simp, by omega⟩
    · rcases ti with ti | ti
      · exact ⟨a, by simp, by omega⟩
      · exact ⟨d, by simp, by omega⟩
    · exact ⟨d, by simp, by omega⟩
    · exact ⟨x, by simp [e], by omega⟩
  | @there u p q cy s ih =>
    intro z x hx
    rcases List.mem_cons.mp hx with e | e
    · exact ⟨u, by simp, by omega⟩
    · obtain ⟨y, hy, l⟩ := ih z.tail x e
      exact ⟨y, List.mem_cons_of_mem _ hy, l⟩
theorem run_keep {p q : List Int} {cs : List (Int × Int)} (r : Run p cs q) : ZZ p → q.head? = p.head? ∧ q.getLast? = p.getLast? ∧ (∀ x ∈ q, x ∈ p) ∧ ∀ x ∈ p, ∃ y ∈ q, y ≤ x := by
  induction r with
  | nil p => exact fun _ => ⟨rfl, rfl, fun _ h => h, fun x h => ⟨x, h, Int.le_refl _⟩⟩
  | cons s _ ih =>
    intro z
    obtain ⟨h1, h2, h3, h4⟩ := ih (ZZ.step s z)
    refine ⟨h1.trans (step_head? s), h2.trans (step_last? s), fun x hx => step_sub s x (h3 x hx), fun x hx => ?_⟩
    obtain ⟨y, hy, l⟩ := step_low s z x hx
    obtain ⟨y2, hy2, l2⟩ := h4 y hy
    exact ⟨y2, hy2, by omega⟩
theorem last_mem {l : List Int} {x : Int} (h : l.getLast? = some x) : x ∈ l := by
  cases l with
  | nil => cases h
  | cons a l =>
    rw [List.getLast?_eq_some_getLast (l := a :: l) (by simp)] at h
    rw [← Option.some.inj h]
    exact List.getLast_mem (by simp)
/-- the rest of a circle that is cut at a greatest reading -/
theorem rest_three {rs : List Int} {M : Int} (z : ZZ rs) (n : NF rs) (h1 : rs.head? = some M) (h2 : rs.getLast? = some M) (h3 : ∀ x ∈ rs, x ≤ M) : rs = [M] ∨ ∃ m, m < M ∧ rs = [M, m, M] := by
  match rs, h1 with
  | [x], h1 => exact .inl (by rw [show x = M from Option.some.inj h1])
  | [x, y], h1 =>
    have e : x = M := Option.some.inj h1
    have e2 : y = M := Option.some.inj h2
    exact absurd (e.trans e2.symm) z
  | x :: y :: w :: t, h1 =>
    have e : x = M := Option.some.inj h1
    subst e
    have hy := h3 y (by simp)
    have hw := h3 w (by simp)
    have z1 := z.1
    have yx : y < x := by omega
    have con := nf_con z n (.inl ⟨yx, hw⟩)
    have lst : (y :: w :: t).getLast? = some x := by
      have := h2
      rw [List.getLast?_cons_cons] at this
      exact this
    have inn := Con.inside con.2 (by omega)
    have hx := inn x (last_mem lst)
    rw [if_pos (by omega), if_pos (by omega)] at hx
    have ew : w = x := by omega
    subst ew
    cases t with
    | nil => exact .inr ⟨y, yx, rfl⟩
    | cons u t =>
      exfalso
      have c2 := con.2.1
      have hu := h3 u (by simp)
      have nt : ¬ Taken w y w u := fun k => n _ _ (.here k)
      have z4 : ZZ (w :: y :: w :: u :: []) := z.four
      rw [taken_iff z4] at nt
      have uy : y < u := by omega
      cases t with
      | nil =>
        have : u = w := by
          have l2 := h2
          rw [List.getLast?_cons_cons, List.getLast?_cons_cons, List.getLast?_cons_cons] at l2
          exact Option.some.inj l2
        omega
      | cons v t =>
        have c3 := con.2.2.1
        have hv := h3 v (by simp)
        have lst2 : (u :: v :: t).getLast? = some w := by
          have := h2
          rw [List.getLast?_cons_cons, List.getLast?_cons_cons, List.getLast?_cons_cons] at this
          exact this
        have inn2 := Con.inside con.2.2.2 (by omega)
        have hx2 := inn2 w (last_mem lst2)
        rw [if_pos (by omega), if_pos (by omega)] at hx2
        have ev : v = w := by omega
        have nt2 : ¬ Taken y w u v := fun k => n _ _ (.there (.here k))
        rw [taken_iff z.tail.four] at nt2
        omega
/-! ### closed cycles -/
/-- es are the closed cycles of ns -/
structure Cl (ns : List Int) (es : List (Int × Int)) : Prop where
  cnt : ∀ lo hi, lo < hi → rnd lo hi ns = 2 * nh lo hi es
  srt : es.Pairwise Le
  inr : ∀ u v, (∀ x ∈ ns, u ≤ x ∧ x ≤ v) → ∀ r ∈ es, InR u v r
theorem Cl.many {ns : List Int} {es : List (Int × Int)} (h : Cl ns es) {lo hi : Int} (h0 : lo < hi) : (rnd lo hi ns : Int) - rnd (lo - 1) hi ns - rnd lo (hi + 1) ns + rnd (lo - 1) (hi + 1) ns = 2 * (es.count (lo, hi) : Nat) := by
  have j := just (lo := lo) (hi := hi) es
  rw [h.cnt lo hi h0, h.cnt (lo - 1) hi (by omega), h.cnt lo (hi + 1) (by omega), h.cnt (lo - 1) (hi + 1) (by omega)]
  omega
theorem ends_of (ns : List Int) : ∃ u v, ∀ x ∈ ns, u ≤ x ∧ x ≤ v := by
  induction ns with
  | nil => exact ⟨0, 0, fun x h => (List.not_mem_nil h).elim⟩
  | cons a l ih =>
    obtain ⟨u, v, h⟩ := ih
    refine ⟨min u a, max v a, fun x hx => ?_⟩
    rcases List.mem_cons.mp hx with e | e
    · omega
    · have := h x e
      omega
theorem Cl.one {ns : List Int} {es fs : List (Int × Int)} (h : Cl ns es) (g : Cl ns fs) : es = fs := by
  refine sorted_same (List.perm_iff_count.mpr fun r => ?_) h.srt g.srt
  obtain ⟨lo, hi⟩ := r
  by_cases z : lo < hi
  · have h1 := h.many z
    have h2 := g.many z
    omega
  · obtain ⟨u, v, b⟩ := ends_of ns
    rw [List.count_eq_zero.mpr fun m => z (h.inr u v b _ m).2.1, List.count_eq_zero.mpr fun m => z (g.inr u v b _ m).2.1]
theorem Cl.all_eq {ns : List Int} {M : Int} (h : ∀ x ∈ ns, x = M) : Cl ns [] := by
  refine ⟨fun lo hi h0 => ?_, List.Pairwise.nil, fun _ _ _ r z => (List.not_mem_nil z).elim⟩
  show cyc (lets lo hi ns) = 0
  cases e : lett lo hi M with
  | none =>
    refine cyc_one (b := true) fun b hb => ?_
    obtain ⟨x, hx, ex⟩ := lets_mem hb
    rw [h x hx, e] at ex
    cases ex
  | some b' =>
    refine cyc_one (b := b') fun b hb => ?_
    obtain ⟨x, hx, ex⟩ := lets_mem hb
    rw [h x hx, e] at ex
    exact (Option.some.inj ex).symm
/-- the points on the circle -/
def CP (ns ps : List Int) : Prop := (ns = [] ∧ ps = []) ∨ ∃ a M, Top ns a M ∧ ps = (tp (circ ns a)).dropLast
theorem CP.one {ns ps qs : List Int} (h : CP ns ps) (g : CP ns qs) : ps = qs := by
  rcases h with ⟨e, h⟩ | ⟨a, M, t, h⟩
  · rcases g with ⟨_, g⟩ | ⟨b, N, u, _⟩
    · rw [h, g]
    · have := u.at'
      rw [e] at this
      simp at this
  · rcases g with ⟨e, _⟩ | ⟨b, N, u, g⟩
    · have := t.at'
      rw [e] at this
      simp at this
    · rw [h, g, (t.one u).1]
theorem tp_circ {ns : List Int} {a : Nat} {M : Int} (t : Top ns a M) : (tp (circ ns a)).head? = some M ∧ (tp (circ ns a)).getLast? = some M ∧ ∀ x ∈ tp (circ ns a), x ≤ M := by
  have e := circ_eq t.at'
  have e2 : circ ns a = M :: ((ns.drop (a + 1) ++ ns.take a) ++ [M]) := by rw [e]; rfl
  refine ⟨?_, ?_, fun x hx => t.le x (circ_mem (tp_mem hx))⟩
  · rw [e2]
    exact ts_head _ _
  · rw [e2]
    show (ts M _).getLast? = _
    rw [ts_lastp]
    show (M :: (ns.drop (a + 1) ++ ns.take a) ++ [M]).getLast? = some M
    rw [List.getLast?_append]
    rfl
/-- no points on the circle exactly if all readings are equal -/
theorem cp_nil {ns : List Int} {a : Nat} {M : Int} (t : Top ns a M) : (tp (circ ns a)).dropLast = [] ↔ ∀ x ∈ ns, x = M := by
  have e2 : circ ns a = M :: ((ns.drop (a + 1) ++ ns.take a) ++ [M]) := by rw [circ_eq t.at']; rfl
  constructor
  · intro h x hx
    have hh := (tp_circ t).1
    have e : tp (circ ns a) = [M] := by
      match hq : tp (circ ns a), hh, h with
      | [y], hh, _ => rw [show y = M from Option.some.inj hh]
      | y :: w :: l, _, h => simp at h
    rw [e2] at e
    have := ts_one e
    rcases List.mem_cons.mp (e2 ▸ mem_circ (a := a) hx) with z | z
    · exact z
    · exact this x z
  · intro h
    have : tp (circ ns a) = [M] := by
      rw [e2]
      refine ts_all fun x hx => ?_
      refine h x (circ_mem (a := a) ?_)
      rw [e2]
      exact List.mem_cons_of_mem _ hx
    rw [this]
    rfl
theorem drop_last_back {l : List Int} {M : Int} (h : l.getLast? = some M) : l.dropLast ++ [M] = l := by
  cases l with
  | nil => cases h
  | cons a l =>
    rw [List.getLast?_eq_some_getLast (l := a :: l) (by simp)] at h
    rw [← Option.some.inj h]
    exact List.dropLast_concat_getLast (by simp)
theorem mem_dl {l : List Int} {x : Int} (h : x ∈ l.dropLast) : x ∈ l := (List.dropLast_sublist l).subset h
/-- the closed cycles: the cycles from a greatest reading round to it, and one from the least to the greatest -/
theorem cl_of {ns : List Int} {a : Nat} {M m : Int} (t : Top ns a M) (hne : (tp (circ ns a)).dropLast ≠ []) {cs ds es : List (Int × Int)} {rs : List Int} (r : Run (tp (circ ns a)) cs rs) (n : NF rs) (p : ds.Perm cs)
    (hm : m ∈ (tp (circ ns a)).dropLast) (hl : ∀ x ∈ (tp (circ ns a)).dropLast, m ≤ x) (pe : es.Perm (ds ++ [(m, M)])) (srt : es.Pairwise Le) : Cl ns es ∧ m < M := by
  obtain ⟨c1, c2, c3⟩ := tp_circ t
  have zz := tp_zz (circ ns a)
  obtain ⟨k1, k2, k3, k4⟩ := run_keep r zz
  have zr := r.zz zz
  obtain ⟨x0, hx0, nx0⟩ : ∃ x ∈ tp (circ ns a), x ≠ M := by
    by_cases z : ∀ x ∈ ns, x = M
    · exact absurd ((cp_nil t).mpr z) hne
    · obtain ⟨x, hx⟩ := Classical.not_forall.mp z
      obtain ⟨hx1, hx2⟩ := Classical.not_imp.mp hx
      by_cases z2 : ∀ y ∈ tp (circ ns a), y = M
      · have zl : (tp (circ ns a)).dropLast = [] := by
          match hq : tp (circ ns a), zz, z2 with
          | [], _, _ => rfl
          | [y], _, _ => rfl
          | y :: w :: l, zz, z2 => exact absurd ((z2 y (by simp)).trans (z2 w (by simp)).symm) (zz_cons zz)
        exact absurd zl hne
      · obtain ⟨y, hy⟩ := Classical.not_forall.mp z2
        obtain ⟨hy1, hy2⟩ := Classical.not_imp.mp hy
        exact ⟨y, hy1, hy2⟩
  rcases rest_three zr n (k1.trans c1) (k2.trans c2) (fun x hx => c3 x (k3 x hx)) with e | ⟨m', hm', e⟩
  · exfalso
    obtain ⟨y, hy, l⟩ := k4 x0 hx0
    rw [e] at hy
    have := List.mem_singleton.mp hy
    have := c3 x0 hx0
    omega
  · have em' : m' = m := by
      have b := drop_last_back c2
      have h1 : m' ∈ tp (circ ns a) := k3 m' (by rw [e]; simp)
      have h2 : m' ∈ (tp (circ ns a)).dropLast := by
        rw [← b] at h1
        rcases List.mem_append.mp h1 with z | z
        · exact z
        · exact absurd (List.mem_singleton.mp z) (by omega)
      have h3 := hl m' h2
      obtain ⟨y, hy, l⟩ := k4 m (mem_dl hm)
      rw [e] at hy
      simp only [List.mem_cons, List.not_mem_nil, or_false] at hy
      omega
    subst em'
    refine ⟨⟨fun lo hi h0 => ?_, srt, fun u v hb q hq => ?_⟩, hm'⟩
    · rw [rnd_circ h0 t, chg_count h0 r n, nh_perm pe, nh_app, nh_perm p, e]
      show 2 * nh lo hi cs + nh lo hi [rg M m', rg m' M] = _
      rw [rg_down hm', rg_up hm', nh_cons, nh_cons]
      have e0 : nh lo hi [] = 0 := rfl
      rw [e0]
      omega
    · have hb2 : ∀ x ∈ tp (circ ns a), u ≤ x ∧ x ≤ v := fun x hx => hb x (circ_mem (tp_mem hx))
      obtain ⟨i1, _⟩ := run_in r zz hb2
      rcases List.mem_append.mp (pe.mem_iff.mp hq) with z | z
      · exact i1 q (p.mem_iff.mp z)
      · rw [List.mem_singleton.mp z]
        have h1 := hb2 m' (mem_dl hm)
        have h2 := hb2 M (last_mem c2)
        exact ⟨h1.1, hm', h2.2⟩
/-! ### moved -/
theorem lett_mv (s lo hi x : Int) : lett (lo + s) (hi + s) (x + s) = lett lo hi x := by
  unfold lett
  by_cases h1 : x ≤ lo
  · rw [if_pos h1, if_pos (by omega)]
  · rw [if_neg h1, if_neg (by omega)]
    by_cases h2 : hi ≤ x
    · rw [if_pos h2, if_pos (by omega)]
    · rw [if_neg h2, if_neg (by omega)]
theorem lets_mv (s lo hi : Int) : ∀ ns : List Int, lets (lo + s) (hi + s) (ns.map (· + s)) = lets lo hi ns
  | [] => rfl
  | x :: l => by
    have ih := lets_mv s lo hi l
    unfold lets at *
    rw [List.map_cons, List.filterMap_cons, List.filterMap_cons, ih, lett_mv]
def mv (s : Int) (r : Int × Int) : Int × Int := (r.1 + s, r.2 + s)
theorem nh_mv (s lo hi : Int) : ∀ es : List (Int × Int), nh (lo + s) (hi + s) (es.map (mv s)) = nh lo hi es
  | [] => rfl
  | (a, b) :: es => by
    have ih := nh_mv s lo hi es
    rw [List.map_cons, nh_cons, nh_cons, ih]
    congr 1
    unfold mv hl
    dsimp only
    rw [show decide (a + s ≤ lo + s) = decide (a ≤ lo) by rw [decide_eq_decide]; omega, show decide (hi + s ≤ b + s) = decide (hi ≤ b) by rw [decide_eq_decide]; omega]
theorem Cl.mv {ns : List Int} {es : List (Int × Int)} (h : Cl ns es) (s : Int) : Cl (ns.map (· + s)) (es.map (mv s)) := by
  refine ⟨fun lo hi h0 => ?_, ?_, fun u v hb r hr => ?_⟩
  · have e1 := lets_mv s (lo - s) (hi - s) ns
    have e2 := nh_mv s (lo - s) (hi - s) es
    rw [show lo - s + s = lo by omega, show hi - s + s = hi by omega] at e1 e2
    unfold rnd
    rw [e1, e2]
    exact h.cnt _ _ (by omega)
  · rw [List.pairwise_map]
    refine h.srt.imp fun {a b} h => ?_
    unfold K20.mv Le at *
    dsimp only
    omega
  · obtain ⟨r0, h1, h2⟩ := List.mem_map.mp hr
    have i := h.inr (u - s) (v - s) (fun x hx => by
      have := hb (x + s) (List.mem_map.mpr ⟨x, hx, rfl⟩)
      omega) r0 h1
    unfold InR at *
    rw [← h2]
    unfold K20.mv
    dsimp only
    omega
theorem Top.mv {ns : List Int} {a : Nat} {M : Int} (t : Top ns a M) (s : Int) : Top (ns.map (· + s)) a (M + s) := by
  refine ⟨by rw [List.getElem?_map, t.at']; rfl, fun x hx => ?_, fun j x hj hx => ?_⟩
  · obtain ⟨y, hy, e⟩ := List.mem_map.mp hx
    have := t.le y hy
    omega
  · rw [List.getElem?_map] at hx
    cases e : ns[j]? with
    | none => rw [e] at hx; cases hx
    | some y =>
      rw [e] at hx
      have h1 := t.first j y hj e
      have h2 : y + s = x := Option.some.inj hx
      omega
theorem CP.mv {ns ps : List Int} (h : CP ns ps) (s : Int) : CP (ns.map (· + s)) (ps.map (· + s)) := by
  rcases h with ⟨e1, e2⟩ | ⟨a, M, t, e⟩
  · exact .inl ⟨by rw [e1]; rfl, by rw [e2]; rfl⟩
  · refine .inr ⟨a, M + s, t.mv s, ?_⟩
    have st : Str fun x => x + s := .inl fun a b => by dsimp only; omega
    have ec : circ (ns.map (· + s)) a = (circ ns a).map (· + s) := by
      unfold circ
      rw [List.map_append, List.map_drop, List.map_take]
    rw [e, ec]
    have := tp_map st (circ ns a)
    rw [this, List.map_dropLast]
end K20

/-! lists or tuples of ints: max, min, index, slices; len of a set -/
namespace GU
open PySem PySem.Spec PyProof.Rows L2 KA PH
section
variable {prog : Program} {w : World} {A : Around} {E : Value → Shared → Prop} {s : Shared} {l : Addr} {xs : Array (Int × Tok)}
theorem iter_intTup {Q : Value → Shared → Prop} (hl : s.heap.IsTuple l (intItems xs))
    (h : ∀ s₂ : Shared, s₂ = { s with heap := s.heap.push { cls := .type "tuple_iterator", data := .fields #[.ref l, .int 0 0] } } →
      (s₂.heap.IsTupleIter s.heap.objs.size l 0 ∧ s₂.heap.IsTuple l (intItems xs)) → (∀ b ∈ [s.heap.objs.size, l], b < s₂.heap.objs.size) → l ≠ s.heap.objs.size → Q (.ref s.heap.objs.size) s₂) :
    wpAny (model prog w) A (pyIter (.ref l)) Q E s := by
  have hlt : l < s.heap.objs.size := by obtain ⟨_, e, _⟩ := hl; exact Heap.lt_size e
  refine wpAny_pyIter_tuple hl (h _ rfl ⟨⟨_, Heap.get?_push_size _ rfl, rfl, rfl⟩, hl.push _⟩ (fun b hb => ?_) (Nat.ne_of_lt hlt))
  show b < (s.heap.push _).objs.size
  rw [Heap.size_push]
  rcases List.mem_cons.mp hb with rfl | hb
  · exact Nat.lt_succ_self _
  · rcases List.mem_cons.mp hb with rfl | hb
    · exact Nat.lt_succ_of_lt hlt
    · cases hb
theorem old_keptT {h' : Heap} (hk : ∀ b o, b ∉ [s.heap.objs.size] → (s.heap.push { cls := .type "tuple_iterator", data := .fields #[.ref l, .int 0 0] }).get? b = some o → h'.get? b = some o) :
    ∀ b o, s.heap.get? b = some o → h'.get? b = some o := fun b o e => by
  refine hk b o (fun hm => ?_) (Heap.get?_push_of_some _ e)
  rcases List.mem_cons.mp hm with e1 | hm
  · exact absurd (e1 ▸ Heap.lt_size e) (Nat.lt_irrefl _)
  · cases hm
theorem max_intTup {Q : Value → Shared → Prop} (hh : A.handled = none) (hl : s.heap.IsTuple l (intItems xs)) (hne : 0 < xs.size)
    (h : ∀ v h' tk, (intItems xs)[argBest (fun i j => decide (numAt xs i > numAt xs j)) (xs.size - 1)]? = some v → (∀ b o, s.heap.get? b = some o → h'.get? b = some o) → Q v { s with heap := h', toks := tk }) :
    wpAny (model prog w) A (call (.builtin "max") [.ref l]) Q E s := by
  refine call_max_walk (iter_intTup hl fun s₂ e st hfp hlI => ?_)
  subst e
  refine ⟨_, _, _, _, _, _, _, rfl, Walks.tuple (A := A.in1) hh _ l hlI (intItems xs), st, hfp, by simpa [intItems] using hne, CmpOf.ints_gt (numAt xs) (fun _ _ => intItems_at), fun v h' tk hP hk => ?_⟩
  exact h v h' tk (by simpa [intItems] using hP) (old_keptT hk)
theorem min_intTup {Q : Value → Shared → Prop} (hh : A.handled = none) (hl : s.heap.IsTuple l (intItems xs)) (hne : 0 < xs.size)
    (h : ∀ v h' tk, (intItems xs)[argBest (fun i j => decide (numAt xs i < numAt xs j)) (xs.size - 1)]? = some v → (∀ b o, s.heap.get? b = some o → h'.get? b = some o) → Q v { s with heap := h', toks := tk }) :
    wpAny (model prog w) A (call (.builtin "min") [.ref l]) Q E s := by
  refine call_min_walk (iter_intTup hl fun s₂ e st hfp hlI => ?_)
  subst e
  refine ⟨_, _, _, _, _, _, _, rfl, Walks.tuple (A := A.in1) hh _ l hlI (intItems xs), st, hfp, by simpa [intItems] using hne, CmpOf.ints_lt (numAt xs) (fun _ _ => intItems_at), fun v h' tk hP hk => ?_⟩
  exact h v h' tk (by simpa [intItems] using hP) (old_keptT hk)
end
section
variable {prog : Program} {w : World} {A : Around} {E : Value → Shared → Prop} {s : Shared} {l : Addr} {its : List Value} {ns : List Int} {Q : Value → Shared → Prop}
theorem max_rawT (hh : A.handled = none) (hl : IsTup s.heap l its.toArray) (hi : IntsAre its ns) (hne : 0 < ns.length)
    (h : ∀ h' tk M t', (∀ b o, s.heap.get? b = some o → h'.get? b = some o) → M ∈ ns → (∀ a, a ∈ ns → a ≤ M) → Q (.int M t') { s with heap := h', toks := tk }) : wpAny (model prog w) A (call (.builtin "max") [.ref l]) Q E s := by
  obtain ⟨xs, e⟩ := hi.allInts.items
  have hn : numsOf (intItems xs).toList = ns := by rw [← e]; exact hi.numsOf
  rw [nums_intItems] at hn
  subst hn
  rw [e] at hl
  have hsz : 0 < xs.size := by simpa using hne
  have hl2 : s.heap.IsTuple l (intItems xs) := by
    obtain ⟨o, ho, hc, n, hd⟩ := hl
    exact ⟨o, ho, hc, n, hd⟩
  refine max_intTup hh hl2 hsz fun v h' tk hv hk => ?_
  obtain ⟨t, rfl⟩ := intItems_at hv
  obtain ⟨h1, h2⟩ := argBest_gt (numAt xs) (xs.size - 1)
  refine h h' tk _ t hk ?_ fun a ha => ?_
  · rw [numAt_eq]; exact PySem.getD_mem (by rw [List.length_map, Array.length_toList]; omega)
  · obtain ⟨j, hj, rfl⟩ := mem_getD ha
    rw [List.length_map, Array.length_toList] at hj
    rw [← numAt_eq]; exact h2 j (by omega)
theorem min_rawT (hh : A.handled = none) (hl : IsTup s.heap l its.toArray) (hi : IntsAre its ns) (hne : 0 < ns.length)
    (h : ∀ h' tk M t', (∀ b o, s.heap.get? b = some o → h'.get? b = some o) → M ∈ ns → (∀ a, a ∈ ns → M ≤ a) → Q (.int M t') { s with heap := h', toks := tk }) : wpAny (model prog w) A (call (.builtin "min") [.ref l]) Q E s := by
  obtain ⟨xs, e⟩ := hi.allInts.items
  have hn : numsOf (intItems xs).toList = ns := by rw [← e]; exact hi.numsOf
  rw [nums_intItems] at hn
  subst hn
  rw [e] at hl
  have hsz : 0 < xs.size := by simpa using hne
  have hl2 : s.heap.IsTuple l (intItems xs) := by
    obtain ⟨o, ho, hc, n, hd⟩ := hl
    exact ⟨o, ho, hc, n, hd⟩
  refine min_intTup hh hl2 hsz fun v h' tk hv hk => ?_
  obtain ⟨t, rfl⟩ := intItems_at hv
  obtain ⟨h1, h2⟩ := argBest_lt (numAt xs) (xs.size - 1)
  refine h h' tk _ t hk ?_ fun a ha => ?_
  · rw [numAt_eq]; exact PySem.getD_mem (by rw [List.length_map, Array.length_toList]; omega)
  · obtain ⟨j, hj, rfl⟩ := mem_getD ha
    rw [List.length_map, Array.length_toList] at hj
    rw [← numAt_eq]; exact h2 j (by omega)
end
section
variable {X : Cx}
/-- one of two readings -/
theorem pe_either {e : Expr} {t u : TE} (h : PE X e t) (g : PE X e u) : PE X e (fun σ H Q => t σ H Q ∨ u σ H Q) :=
  ⟨fun pins s σ H Q I q => q.elim (h.run pins s σ H Q I) (g.run pins s σ H Q I)⟩
/-- max(xs), min(xs) of a list or a tuple of ints -/
def rMaxS (K : PySem.W.Frag) : List V → Hp → VK → Prop := fun vs H Q => ∃ (a : Addr) (ns : List Int), vs = [V.ref a] ∧ Sq K H a (ns.map V.int) ∧ 0 < ns.length ∧ ∀ m, m ∈ ns → (∀ y, y ∈ ns → y ≤ m) → Q (.int m) H
def rMinS (K : PySem.W.Frag) : List V → Hp → VK → Prop := fun vs H Q => ∃ (a : Addr) (ns : List Int), vs = [V.ref a] ∧ Sq K H a (ns.map V.int) ∧ 0 < ns.length ∧ ∀ m, m ∈ ns → (∀ y, y ∈ ns → m ≤ y) → Q (.int m) H
theorem cr_maxS (hc : X.calm = true) : CallR X (.builtin "max") (rMaxS X.K) := by
  intro pins s σ H vs us Q I r h
  obtain ⟨a, ns, rfl, hs | hs, hne, q⟩ := h
  · exact cr_max hc pins s σ H _ us Q I r ⟨a, ns, rfl, hs, hne, q⟩
  · obtain ⟨its, rv, hl, _⟩ := I.tuple hs
    rw [Vals.ref1 r]
    exact max_rawT (I.ok.hd hc) hl rv.ints hne fun h' tk m t' hk h1 h2 => ⟨.int _, H, I.kept hk, ⟨_, rfl⟩, q m h1 h2⟩
theorem cr_minS (hc : X.calm = true) : CallR X (.builtin "min") (rMinS X.K) := by
  intro pins s σ H vs us Q I r h
  obtain ⟨a, ns, rfl, hs | hs, hne, q⟩ := h
  · exact cr_min hc pins s σ H _ us Q I r ⟨a, ns, rfl, hs, hne, q⟩
  · obtain ⟨its, rv, hl, _⟩ := I.tuple hs
    rw [Vals.ref1 r]
    exact min_rawT (I.ok.hd hc) hl rv.ints hne fun h' tk m t' hk h1 h2 => ⟨.int _, H, I.kept hk, ⟨_, rfl⟩, q m h1 h2⟩
/-- xs[lo:hi] of a list or a tuple -/
def rSlS (K : PySem.W.Frag) : V → Option Int → Option Int → Hp → VK → Prop := fun x lo hi H Q => ∃ a xs, x = .ref a ∧ Sq K H a xs ∧ ∀ H' p, Same H H' → Sq K H' p (cutV xs lo hi) → Q (.ref p) H'
theorem cut_whole {xs : List V} {lo hi : Option Int} (h : HT.sIx xs.length 0 lo = 0 ∧ HT.sIx xs.length xs.length hi = xs.length) : cutV xs lo hi = xs := by
  unfold cutV
  rw [h.1, h.2, List.drop_zero, Nat.sub_zero, List.take_length]
theorem sl_S : SlR X (rSlS X.K) := by
  intro pins s σ H x v vl vu lo hi sl Q I rx hs pl pu h
  obtain ⟨a, xs, rfl, hS | hS, q⟩ := h
  · exact sl_list pins s σ H _ v vl vu lo hi sl Q I rx hs pl pu ⟨a, xs, rfl, hS, fun p np => q _ p (same_new np) (.inl (SqL.of upd_same))⟩
  · exact sl_tupA pins s σ H _ v vl vu lo hi sl Q I rx hs pl pu ⟨a, xs, rfl, hS, fun w => q H a (Same.refl H) (by rw [cut_whole w]; exact .inr hS), fun _ p np => q _ p (same_new np) (.inr (SqT.of upd_same))⟩
/-- xs.index(y) of ints -/
def rIdxL (K : PySem.W.Frag) : V → List V → Hp → VK → Prop := fun x xs H Q => ∃ (a : Addr) (ns : List Int) (y : Int) (j : Nat), x = V.ref a ∧ xs = [V.int y] ∧ SqL K H a (ns.map V.int) ∧ ns[j]? = some y ∧ (∀ m z, m < j → ns[m]? = some z → z ≠ y) ∧ Q (.int (j : Nat)) H
def rIdxT (K : PySem.W.Frag) : V → List V → Hp → VK → Prop := fun x xs H Q => ∃ (a : Addr) (ns : List Int) (y : Int) (j : Nat), x = V.ref a ∧ xs = [V.int y] ∧ SqT K H a (ns.map V.int) ∧ ns[j]? = some y ∧ (∀ m z, m < j → ns[m]? = some z → z ≠ y) ∧ Q (.int (j : Nat)) H
theorem flat_ints (ns : List Int) : (ns.map V.int).all flatV = true := by
  rw [List.all_map]
  exact List.all_eq_true.mpr fun _ _ => rfl
theorem mt_idxL : MtR X "list.index" (rIdxL X.K) := by
  intro pins s σ H x xs v us Q I rx rxs h
  obtain ⟨a, ns, y, j, rfl, rfl, hs, hy, hno, q⟩ := h
  refine mt_index pins s σ H _ _ v us Q I rx rxs ⟨a, ns.map V.int, .int y, j, .int y, rfl, rfl, hs, rfl, flat_ints ns, at_int hy, beq_self_eq_true y, fun m z hm hz => ?_, q⟩
  obtain ⟨r, hr, rfl⟩ := int_at hz
  exact beq_eq_false_iff_ne.mpr (hno m r hm hr)
theorem mt_idxT : MtR X "tuple.index" (rIdxT X.K) := by
  intro pins s σ H x xs v us Q I rx rs h
  obtain ⟨p, ys, z, j, rfl, rfl, hq, hy, hno, q⟩ := h
  cases rx
  obtain ⟨u, rfl, t, rfl⟩ := vals1 rs
  obtain ⟨its, r, pl, hz⟩ := I.tuple hq
  obtain ⟨⟨cls, dd, dt, sl⟩, ho, hc, n, hd⟩ := pl
  simp only at hc hd
  subst hc
  subst hd
  have hl : its.toArray.size = ys.length := by rw [List.size_toArray, ← r.length, List.length_map]
  have hj : j < its.toArray.size := by rw [hl]; exact (List.getElem?_eq_some_iff.mp hy).1
  have at' : ∀ (m : Nat) (hm : m < its.toArray.size), ∃ y t', ys[m]? = some y ∧ its.toArray[m] = Value.int y t' := fun m hm => by
    have hm' : m < ys.length := by rw [← hl]; exact hm
    obtain ⟨w, hw, t', hw'⟩ := r.get (i := m) (x := .int ys[m]) (by simp [hm'])
    refine ⟨ys[m], t', List.getElem?_eq_getElem hm', ?_⟩
    have e := (List.getElem?_eq_some_iff.mp hw).2
    rw [← hw', ← e]
    simp
  refine call_meets PySem.F.slot_tuple_index ⟨_, ho, rfl⟩ PySem.F.entry_tuple_index (PySem.F.args_tuple_index_2 _ _) (TI.tuple_indexAt p its.toArray n dd sl (.int z t) (eqU (.int z)) j hj ?_ ?_)
    ⟨ho, fun w hw => mem_eqAt (x := .int z) ⟨t, rfl⟩ rfl r (flat_ints ys) w (by simpa using hw), ⟨.int (j : Nat), H, I.tok _, ⟨_, rfl⟩, q⟩⟩
  · obtain ⟨y, t', h1, h2⟩ := at' j hj
    rw [hy] at h1
    cases h1
    rw [h2]
    show (z == z) = true
    exact beq_self_eq_true z
  · intro m hm hmj
    obtain ⟨y, t', h1, h2⟩ := at' m hm
    rw [h2]
    show (y == z) = false
    exact beq_eq_false_iff_ne.mpr (hno m y hmj h1)
/-- len(s) of a set of ints -/
def rLenSet (w : World) : List V → Hp → VK → Prop := fun vs H Q => ∃ (a : Addr) (S : Int → Bool) (n : Nat), vs = [V.ref a] ∧ H a = some (SetO w a S n) ∧ n < 2 ^ 40 ∧ ((∃ ks : List Int, ks.Nodup ∧ ks.length = n ∧ ∀ k, k ∈ ks ↔ S k = true) → Q (.int (n : Nat)) H)
theorem cr_lenSet : CallR X (.builtin "len") (rLenSet X.w) := by
  intro pins s σ H vs us Q I r h
  obtain ⟨a, S, n, rfl, ha, hn, q⟩ := h
  rw [Vals.ref1 r]
  obtain ⟨o, es, ep, t, ho, hex, hd, h1, h2, h3, h4, hf, hsz, _⟩ := setO_get I ha
  refine call_len_set ho hex hd hf (by omega) ⟨.int (n : Nat), H, I.tok _, ⟨_, by rw [hsz]⟩, q ⟨es.toList.map keyOf, h2, by rw [List.length_map, Array.length_toList, hsz], fun k => (h3 k).symm⟩⟩
end
end GU

/-! a tuple whose object is known: it has no dict, so its methods can be called -/
namespace GF
open PySem PySem.Spec PyProof.Rows L2 KA PH GU
/-- a list, or a tuple that is known to have no dict -/
def SqF (K : PySem.W.Frag) (H : Hp) (a : Addr) (xs : List V) : Prop := SqL K H a xs ∨ ∃ o : Obj, H a = some (.frz o (.tup xs)) ∧ o.cls = .type "tuple" ∧ o.dict = none
theorem SqF.sq {K : PySem.W.Frag} {H : Hp} {a : Addr} {xs : List V} (h : SqF K H a xs) : Sq K H a xs := h.elim .inl fun ⟨o, h, _⟩ => .inr (.inl (.inr ⟨o, h⟩))
theorem SqF.same {K : PySem.W.Frag} {H H' : Hp} {a : Addr} {xs : List V} (h : SqF K H a xs) (s : Same H H') : SqF K H' a xs := h.elim (fun z => .inl (s.seq z)) fun ⟨o, h, d⟩ => .inr ⟨o, s _ _ h, d⟩
section
variable {X : Cx}
theorem call_tuple_frz : CallR X (.type "tuple") (fun xs H Q => ∃ p ys, xs = [.ref p] ∧ SqL X.K H p ys ∧ ∀ l (o : Obj), H l = none → o.cls = .type "tuple" → o.dict = none → Q (.ref l) (upd H l (.frz o (.tup ys)))) := by
  intro pins s σ H xs us Q I r h
  obtain ⟨p, ys, rfl, hq, q⟩ := h
  obtain ⟨u, rfl, rx⟩ := vals1 r
  cases rx
  obtain ⟨its, r', pl, hz⟩ := I.list hq
  have hlen := r'.length
  refine call_tuple_list pl.isList (fun h' kp => ?_) (by simp only [List.size_toArray] <;> omega)
  have I1 : Inv X pins σ H { s with heap := h' } := I.kept (t' := s.toks) kp
  have I2 : Inv X pins σ (upd H h'.objs.size (.frz { cls := .type "tuple", data := .seq its.toArray } (.tup ys))) { s with heap := h'.push { cls := .type "tuple", data := .seq its.toArray } } :=
    I1.laid (t' := s.toks) (fun b o e => Heap.get?_push_of_some _ e) (Nat.le_refl _) ⟨Heap.get?_push_size _ rfl, hz, its, r', IsTup.new _ _⟩
  exact ⟨.ref h'.objs.size, _, I2, rfl, q _ _ (I1.hok.fresh (Nat.le_refl _)) rfl rfl⟩
variable {o e : Expr} {es : List Expr} {to : TE} {t : TA} {apos cpos : Pos}
def tIdxF (K : PySem.W.Frag) (to : TE) (t : TA) : TE := fun σ H Q => to σ H fun x H1 => (∃ (a : Addr) (ob : Obj) (xs : List V), x = .ref a ∧ H1 a = some (.frz ob (.tup xs)) ∧ ob.cls = .type "tuple" ∧ ob.dict = none) ∧ t σ H1 fun ys H2 => rIdxT K x ys H2 Q
theorem pe_idxF (ho : PE X o to) (ha : PA X (e :: es) t)
    (hbase : attributeBase o "index" X.env (eval o X.env) = eval o X.env := by rfl)
    (hfew : ((backTo cpos (starEach (e :: es) X.env)).all (fun x => !x.1) && (backToKw cpos (keywordEach [] X.env)).all (fun x => x.1.isSome)
      && decide ((e :: es).length + ([] : List Keyword).length + (if ([] : List Keyword).isEmpty then 0 else 1) < 30)) = true := by rfl)
    (hline : (apos.endLine == cpos.line) = true := by rfl) (hs : starEach (e :: es) X.env = (false, eval e X.env) :: starEach es X.env := by rfl) (hplain : (backTo cpos (starEach es X.env)).any (·.1) = false := by rfl) :
    PE X (.Call (.Attribute o "index" apos) (e :: es) [] cpos) (tIdxF X.K to t) := by
  refine ⟨fun pins s σ H Q I h => ?_⟩
  refine wpAny_Call_method_late hbase hfew hline rfl (thn (ho.run pins s σ H _ I h) fun v s1 ⟨x, H1, I1, r1, ty, q1⟩ => ?_)
  obtain ⟨a, ob, xs, rfl, hx, hcl, hdc⟩ := ty
  cases r1
  have hob : s1.heap.get? a = some ob := (I1.hok a _ hx).1
  have h1 : s1.TypeIs (.ref a) "tuple" := ⟨ob, hob, hcl⟩
  have h2 : ∀ b, (Value.ref a) = .ref b → ∃ u, s1.heap.get? b = some u ∧ u.dict = none := fun b e => by
    cases e
    exact ⟨ob, hob, hdc⟩
  refine ⟨"tuple", _, PySem.F.plainAttrs_tuple, PySem.F.slot_tuple_index, PySem.F.type_tuple_index, h1, h2, ?_⟩
  have hA := ha.run cpos pins s1 σ H1 _ I1 q1
  rw [hs] at hA ⊢
  refine Calls.callWith_builtin (by show (false || (backTo cpos (starEach es X.env)).any (·.1)) = false; rw [hplain] <;> rfl) (Calls.evalArgs_plain ?_)
  exact thn hA fun us s2 ⟨vs, H2, I2, r2, q2⟩ => mt_idxT pins s2 σ H2 (.ref a) vs (.ref a) us Q I2 rfl r2 q2
end
end GF

/-! closed_points, closed_cycles -/
namespace VQ
open PySem PySem.Spec PyProof.Rows L2 KA PH PM PA PB PC RM RN QE QF QG QH K20 GU GF
abbrev sCP : Stmt := topS 16
abbrev sCC : Stmt := topS 17
theorem scCP : FnScope ["load", "start", "circle"] ["load"] (defScope sCP) := ⟨rfl, rfl, rfl, by decide +kernel, rfl, by decide +kernel, by decide +kernel⟩
theorem scCC : FnScope ["load", "points", "opened"] ["load"] (defScope sCC) := ⟨rfl, rfl, rfl, by decide +kernel, rfl, by decide +kernel, by decide +kernel⟩
theorem first_at {M : Int} : ∀ {ns : List Int}, M ∈ ns → ∃ j : Nat, ns[j]? = some M ∧ ∀ (m : Nat) (z : Int), m < j → ns[m]? = some z → z ≠ M
  | [], h => (List.not_mem_nil h).elim
  | x :: l, h => by
    by_cases e : x = M
    · exact ⟨0, by rw [e]; rfl, fun m z hm _ => absurd hm (Nat.not_lt_zero _)⟩
    · obtain ⟨j, h1, h2⟩ := first_at (ns := l) (by
        rcases List.mem_cons.mp h with z | z
        · exact absurd z.symm e
        · exact z)
      refine ⟨j + 1, h1, fun m z hm hz => ?_⟩
      cases m with
      | zero => rw [← Option.some.inj hz]; exact e
      | succ m => exact h2 m z (by omega) hz
theorem iteB {b : Bool} {A B : Prop} (h : b = false) (k : B) : if b = true then A else B := by
  rw [h, if_neg Bool.false_ne_true]
  exact k
theorem cutv_to (xs : List V) (j : Nat) : cutV xs none (some (j : Int)) = xs.take j := by
  unfold cutV
  rw [HT.sIx_nat xs.length xs.length j, HT.sIx_none]
  rw [List.drop_zero, Nat.sub_zero]
  by_cases h : j ≤ xs.length
  · rw [Nat.min_eq_left h]
  · rw [Nat.min_eq_right (by omega), List.take_length, List.take_of_length_le (by omega)]
theorem cutv_from (xs : List V) (j : Nat) : cutV xs (some (j : Int)) none = xs.drop j := by
  unfold cutV
  rw [HT.sIx_nat xs.length 0 j, HT.sIx_none]
  by_cases h : j ≤ xs.length
  · rw [Nat.min_eq_left h, List.take_of_length_le (by rw [List.length_drop]; exact Nat.le_refl _)]
  · rw [Nat.min_eq_right (by omega), Nat.sub_self, List.take_zero, List.drop_of_length_le (by omega)]
theorem sIx_m1 (n : Nat) : HT.sIx n n (some (-1)) = n - 1 := by
  show (if (-1 : Int) < 0 then ((-1 : Int) + (n : Int)).toNat else min (-1 : Int).toNat n) = n - 1
  rw [if_pos (by decide)]
  omega
theorem cutv_last (xs : List V) : cutV xs none (some (-1)) = xs.dropLast := by
  unfold cutV
  rw [sIx_m1, HT.sIx_none, List.drop_zero, Nat.sub_zero, List.dropLast_eq_take]
section
variable {P : Program} {w : World} {K : PySem.W.Frag} {mg : Str → Option Value} {base : Heap}
def spCP (K : PySem.W.Frag) : Sp := fun vs H Q _ => ∃ (a : Addr) (ns : List Int), vs = [.ref a] ∧ SqF K H a (ns.map V.int) ∧ ns.length ≤ 1000 ∧ ∀ H' t ps, Same H H' → H' t = some (.tup (ps.map V.int)) → CP ns ps → ps.length ≤ ns.length + 1 → Q (.ref t) H'
theorem ok_CP {f fTP : Addr} {fd dTP : FuncData} {k : Nat} (F : Fun K "closed_points" "closed_points" sCP f fd) (GTP : FnOk P w K mg base CX0 (k + 2) fTP dTP ["load"] (spTPq K)) (gTP : mg "turning_points" = some (.ref fTP)) (kTP : PySem.W.keepIn K (.ref fTP) = true) (bTP : Binds K dTP ["load"] [])
    (mm : mg "max" = none) (mli : mg "list" = none) : FnOk P w K mg base CX0 (k + 3) f fd ["load"] (spCP K) := by
  refine F.ok scCP (fun vs H Q E h => ?_) (fun cdv A outer s H vs Q E hr h => ?_)
  · obtain ⟨a, ns, rfl, _⟩ := h
    rfl
  · obtain ⟨a, ns, rfl, hF, hlen, q⟩ := h
    have hS := hF.sq
    refine ⟨_, pss_cons (ps_if (pt_not (pt_truth (pv 0) (by intro _; rfl))) (pss_one (ps_ret (pe_tup pa_nil))) pss_nil)
      (C8.pss_cut (ps_set (i := 1) scCP.nd rfl (.inl rfl) (pe_either (pe_bm PySem.F.plainAttrs_list PySem.F.slot_list_index PySem.F.type_list_index mt_idxL (pv 0) (pa_cons (pe_callB (cr_maxS rfl) (by rfl) mm (by decide +kernel) (pa_cons (pv 0) pa_nil)) pa_nil))
          (pe_idxF (pv 0) (pa_cons (pe_callB (cr_maxS rfl) (by rfl) mm (by decide +kernel) (pa_cons (pv 0) pa_nil)) pa_nil))))
      (pss_cons (ps_set (i := 2) scCP.nd rfl (.inl rfl) (pe_op op_cat (pe_callTy call_list_of (by rfl) mli (by decide +kernel) (pa_cons (pe_slice sl_S (pv 0) (po_some (pv 1)) po_none) pa_nil)) (pe_callTy call_list_of (by rfl) mli (by decide +kernel) (pa_cons (pe_slice sl_S (pv 0) po_none (po_some (pe_op op_add (pv 1) pe_int))) pa_nil))))
      (pss_one (ps_ret (pe_slice sl_tup (pe_call GTP hr (by rfl) gTP kTP bTP .nil pass0 (pa_cons (pv 2) pa_nil)) po_none (po_some (pe_un un_neg pe_int))))))), ?_⟩
    refine ⟨.ref a, rfl, !(ns.map V.int).isEmpty, hS.elim (fun h => .inl ⟨_, h, rfl⟩) (fun h => .inr (.inl ⟨_, h, rfl⟩)), ?_⟩
    by_cases hne : ns = []
    · subst hne
      exact iteT ⟨by decide, fun p np => q _ p [] (same_new np) upd_same (.inl ⟨rfl, rfl⟩) (Nat.zero_le _)⟩
    have hpos : 0 < ns.length := by
      cases ns with
      | nil => exact absurd rfl hne
      | cons x l => exact Nat.succ_pos _
    have he : (!(!(ns.map V.int).isEmpty)) = false := by
      cases ns with
      | nil => exact absurd rfl hne
      | cons x l => rfl
    refine iteB he ?_
    refine ⟨fun σ H' => H' = H ∧ ∃ j M, Top ns j M ∧ σ = [some (.ref a), some (.int (j : Nat)), none], ?_, ?_⟩
    · rcases hF with hL | ⟨ob, hT, hc1, hc2⟩
      · refine .inl ⟨.ref a, rfl, .inl ⟨rfl, _, hL⟩, .ref a, rfl, a, ns, rfl, hS, hpos, fun M hM hle => ?_⟩
        obtain ⟨j, h1, h2⟩ := first_at hM
        exact ⟨a, ns, M, j, rfl, rfl, hL, h1, h2, rfl, j, M, ⟨h1, hle, fun m z hm hz => h2 m z hm hz⟩, rfl⟩
      · refine .inr ⟨.ref a, rfl, ⟨a, ob, _, rfl, hT, hc1, hc2⟩, .ref a, rfl, a, ns, rfl, hS, hpos, fun M hM hle => ?_⟩
        obtain ⟨j, h1, h2⟩ := first_at hM
        exact ⟨a, ns, M, j, rfl, rfl, .inl (.inr ⟨ob, hT⟩), h1, h2, rfl, j, M, ⟨h1, hle, fun m z hm hz => h2 m z hm hz⟩, rfl⟩
    rintro σ H' ⟨rfl, j, M, top, rfl⟩
    have hj := (List.getElem?_eq_some_iff.mp top.at').1
    refine ⟨.ref a, rfl, .int (j : Nat), rfl, (j : Int), rfl, a, _, rfl, hS, fun H1 p1 s1 h1 => ⟨p1, _, rfl, h1, fun l1 nl1 => ?_⟩⟩
    have e1 : cutV (ns.map V.int) (some (j : Int)) none = (ns.drop j).map V.int := by rw [cutv_from, List.map_drop]
    rw [e1]
    have t1 := s1.trans (same_new (o := .lst ((ns.drop j).map V.int)) nl1)
    have g1 := upd_same (H := H1) (a := l1) (o := .lst ((ns.drop j).map V.int))
    generalize upd H1 l1 (.lst ((ns.drop j).map V.int)) = H2 at t1 g1 ⊢
    have ej : (j : Int) + 1 = ((j + 1 : Nat) : Int) := by omega
    have e2 : cutV (ns.map V.int) none (some ((j : Int) + 1)) = (ns.take (j + 1)).map V.int := by rw [ej, cutv_to, List.map_take]
    refine ⟨.ref a, rfl, .int (j : Nat), rfl, (j : Int), 1, rfl, rfl, (j : Int) + 1, rfl, a, _, rfl, hS.same t1, fun H3 p3 s3 h3 => ⟨p3, _, rfl, h3, fun l3 nl3 => ?_⟩⟩
    rw [e2]
    have t3 := s3.trans (same_new (o := .lst ((ns.take (j + 1)).map V.int)) nl3)
    have g3 := t3 _ _ g1
    refine ⟨l1, l3, _, _, rfl, rfl, g3, upd_same, ?_, fun c nc => ?_⟩
    · rw [List.length_map, List.length_map, List.length_drop, List.length_take]
      exact Nat.le_trans (show _ ≤ 2500 by omega) (by decide)
    have t4 := t3.trans (same_new (o := .lst ((ns.drop j).map V.int ++ (ns.take (j + 1)).map V.int)) nc)
    have g4 : (upd (upd H3 l3 (.lst ((ns.take (j + 1)).map V.int))) c (.lst ((ns.drop j).map V.int ++ (ns.take (j + 1)).map V.int))) c = some (.lst ((circ ns j).map V.int)) := by
      unfold circ
      rw [upd_same, List.map_append]
    have lc : (circ ns j).length = ns.length + 1 := by
      unfold circ
      rw [List.length_append, List.length_drop, List.length_take]
      omega
    refine ⟨.ref c, rfl, c, circ ns j, rfl, .inl (SqL.of g4), by omega, fun H5 t s5 nt et => ?_⟩
    have hl := tp_len (circ ns j)
    have hh := (tp_circ top).1
    have hp : 0 < (tp (circ ns j)).length := by
      cases hq : tp (circ ns j) with
      | nil => rw [hq] at hh; cases hh
      | cons x l => exact Nat.succ_pos _
    refine ⟨1, rfl, -1, rfl, t, _, rfl, SqT.of et, ?_, fun p np => ?_⟩
    · rintro ⟨_, z⟩
      rw [sIx_m1, List.length_map] at z
      omega
    · rw [cutv_last, ← List.map_dropLast]
      exact q _ p _ (t1.trans (t4.trans (s5.trans (same_new np)))) upd_same (.inr ⟨j, M, top, rfl⟩) (by rw [List.length_dropLast]; omega)
def spCC (K : PySem.W.Frag) : Sp := fun vs H Q _ => ∃ (a : Addr) (ns : List Int), vs = [.ref a] ∧ SqF K H a (ns.map V.int) ∧ ns.length ≤ 1000 ∧ ∀ H' t ys es, Same H H' → H' t = some (.tup ys) → PairsAt H' ys es → Cl ns es → es.length ≤ 2 * ns.length + 10 → Q (.ref t) H'
theorem ok_CC {C pO pC f fCP fOF fPC : Addr} {fd dCP dOF dPC : FuncData} {k : Nat} (F : Fun K "closed_cycles" "closed_cycles" sCC f fd) (GCP : FnOk P w K mg base CX0 (k + 3) fCP dCP ["load"] (spCP K)) (gCP : mg "closed_points" = some (.ref fCP)) (kCP : PySem.W.keepIn K (.ref fCP) = true) (bCP : Binds K dCP ["load"] [])
    (gC : mg "Count" = some (.ref C)) (rd : ClX.CRead K C (.type "type")) (cm : ClX.CMet K C (.type "type") "of" pO fOF) (GOF : FnOk P w K mg base CX0 (k + 4) fOF dOF ["cls", "load"] (spOf K C)) (bOF : Binds K dOF ["cls", "load"] [])
    (cn : Cnt K C) (prC : PropOf K C "cycles" pC fPC) (GPC : FnOk P w K mg base CX0 (k + 1) fPC dPC ["self"] (spPC C)) (bPC : Binds K dPC ["self"] []) (mx : mg "max" = none) (mn : mg "min" = none) (ms : mg "sorted" = none) (mt : mg "tuple" = none) :
    FnOk P w K mg base CX0 (k + 5) f fd ["load"] (spCC K) := by
  refine F.ok scCC (fun vs H Q E h => ?_) (fun cdv A outer s H vs Q E hr h => ?_)
  · obtain ⟨a, ns, rfl, _⟩ := h
    rfl
  · obtain ⟨a, ns, rfl, hF, hlen, q⟩ := h
    refine ⟨_, pss_cons (ps_set (i := 1) scCC.nd rfl (.inl rfl) (pe_call GCP (hr.mono (show k + 3 ≤ k + 4 by omega)) (by rfl) gCP kCP bCP .nil pass0 (pa_cons (pv 0) pa_nil)))
      (pss_cons (ps_if (pt_not (pt_truth (pv 1) (by intro _; rfl))) (pss_one (ps_ret (pe_tup pa_nil))) pss_nil)
      (pss_cons (ps_set (i := 2) scCC.nd rfl (.inl rfl) (ClX.pe_cmeth (pe_glob (v := .ref C) (by rfl) gC rfl) rd cm (GOF.raw bOF .nil) hr pass0 (pa_cons (pe_op op_catA (pv 1) (pe_slice sl_tupA (pv 1) po_none (po_some pe_int))) pa_nil)))
      (pss_one (ps_ret (pe_callTy call_tuple_of (by rfl) mt (by decide +kernel) (pa_cons (pe_callB cr_sortedPO (by rfl) ms (by decide +kernel) (pa_cons (pe_lst (StX.pa_star (pe_prop (pv 2) cn.cl prC GPC (hr.mono (show k + 1 + 1 ≤ k + 4 by omega)) bPC .nil pass0 (by rfl))
        (pa_cons (pe_tup (pa_cons (pe_callB (cr_minS rfl) (by rfl) mn (by decide +kernel) (pa_cons (pv 1) pa_nil)) (pa_cons (pe_callB (cr_maxS rfl) (by rfl) mx (by decide +kernel) (pa_cons (pv 1) pa_nil)) pa_nil))) pa_nil))) pa_nil)) pa_nil)))))), ?_⟩
    refine ⟨.ref a, rfl, a, ns, rfl, hF, hlen, fun H1 t ps s1 et cp lps => ?_⟩
    refine ⟨.ref t, rfl, !(ps.map V.int).isEmpty, .inr (.inl ⟨_, SqT.of et, rfl⟩), ?_⟩
    by_cases hne : ps = []
    · subst hne
      refine iteT ⟨by decide, fun p np => q _ p [] [] (s1.trans (same_new np)) upd_same trivial ?_ (Nat.zero_le _)⟩
      rcases cp with ⟨e, _⟩ | ⟨j, M, top, e⟩
      · exact Cl.all_eq (M := 0) fun x hx => by rw [e] at hx; exact (List.not_mem_nil hx).elim
      · exact Cl.all_eq (M := M) ((cp_nil top).mp e.symm)
    have he : (!(!(ps.map V.int).isEmpty)) = false := by
      cases ps with
      | nil => exact absurd rfl hne
      | cons x l => rfl
    refine iteB he ?_
    obtain ⟨j, M, top, ep⟩ : ∃ j M, Top ns j M ∧ ps = (tp (circ ns j)).dropLast := by
      rcases cp with ⟨_, e⟩ | h
      · exact absurd e hne
      · exact h
    obtain ⟨c1, c2, c3⟩ := tp_circ top
    have back := drop_last_back c2
    rw [← ep] at back
    have ph : ps.head? = some M := by
      cases ps with
      | nil => exact absurd rfl hne
      | cons x l =>
        rw [← back] at c1
        exact c1
    have pt1 : ps.take 1 = [M] := by
      cases ps with
      | nil => exact absurd rfl hne
      | cons x l => rw [show x = M from Option.some.inj ph]; rfl
    have whole : ps ++ [M] = tp (circ ns j) := back
    have zz := tp_zz (circ ns j)
    have plen : 2 ≤ ps.length := by
      have nM : ps ≠ [M] := by
        intro e
        rw [e] at whole
        rw [← whole] at zz
        exact absurd rfl (show M ≠ M from zz)
      match ps, hne, ph with
      | [], h, _ => exact absurd rfl h
      | [x], _, ph => exact absurd (by rw [show x = M from Option.some.inj ph]) nM
      | x :: y :: l, _, _ => exact Nat.le_add_left 2 _
    have ppos : 0 < ps.length := by omega
    -- opened
    have hcut : cutV (ps.map V.int) none (some 1) = [V.int M] := by
      rw [show (some (1 : Int)) = some ((1 : Nat) : Int) from rfl, cutv_to, ← List.map_take, pt1]
      rfl
    refine ⟨rfl, .ref t, rfl, .ref t, rfl, 1, rfl, t, _, rfl, SqT.of et, fun w => ?_, fun _ p1 np1 => ?_⟩
    · exfalso
      have w2 := w.2
      rw [show (some (1 : Int)) = some ((1 : Nat) : Int) from rfl, HT.sIx_nat, List.length_map] at w2
      omega
    rw [hcut]
    have t1 := same_new (o := .tup [V.int M]) np1
    refine ⟨t, p1, _, _, rfl, rfl, SqT.of (t1 _ _ et), SqT.of upd_same, ?_, fun e => ?_, fun _ e => ?_, fun _ _ c nc => ?_⟩
    · rw [List.length_map]
      exact Nat.le_trans (show ps.length + 1 ≤ 2500 by omega) (by decide)
    · exfalso
      cases ps with
      | nil => exact hne rfl
      | cons x l => cases e
    · cases e
    have t2 := t1.trans (same_new (o := .tup (ps.map V.int ++ [V.int M])) nc)
    have gc : (upd (upd H1 p1 (.tup [V.int M])) c (.tup (ps.map V.int ++ [V.int M]))) c = some (.tup ((tp (circ ns j)).map V.int)) := by
      rw [upd_same, ← whole, List.map_append]
      rfl
    generalize upd (upd H1 p1 (.tup [V.int M])) c (.tup (ps.map V.int ++ [V.int M])) = H2 at t2 gc ⊢
    have ltp : (tp (circ ns j)).length = ps.length + 1 := by rw [← whole, List.length_append]; rfl
    refine ⟨c, tp (circ ns j), rfl, .inr (SqT.of gc), by omega, fun H3 x cs ds rs s3 nx ca run nfr perm srt => ?_⟩
    rw [tp_again] at run
    have et3 := s3 _ _ (t2 _ _ et)
    obtain ⟨dx, u1, u2, ys0, hx, hu1, pa0, _⟩ := id ca
    refine ⟨.ref x, rfl, x, dx, _, rfl, hx, x, ds, rs, rfl, ca, fun tc ys htc pa => ⟨tc, ys, rfl, .inl (SqT.of htc), .ref t, rfl, t, ps, rfl, .inr (SqT.of et3), ppos, fun m hm hml => ⟨.ref t, rfl, t, ps, rfl, .inr (SqT.of et3), ppos, fun M' hM hMl => ⟨by show 2 ≤ sizeLine; decide, fun u nu => ?_⟩⟩⟩⟩
    have eM : M' = M := by
      have h1 := hMl M (List.mem_of_mem_head? ph)
      have h2 := c3 M' (by rw [← whole]; exact List.mem_append_left _ hM)
      omega
    subst eM
    have v1 := same_new (o := .tup [.int m, .int M']) nu
    have pall : PairsAt (upd H3 u (.tup [.int m, .int M'])) (ys ++ [V.ref u]) (ds ++ [(m, M')]) := (pa.same v1).append ⟨⟨u, rfl, upd_same⟩, trivial⟩
    have hrl := run.len
    have hdl : ds.length = cs.length := perm.length_eq
    refine ⟨?_, fun l nl => ?_⟩
    · rw [pall.length, List.length_append]
      exact Nat.le_trans (show ds.length + 1 ≤ 2500 by omega) (by decide)
    have v2 := same_new (o := .lst (ys ++ [V.ref u])) nl
    have pl := pall.same v2
    refine ⟨l, _, kOf _, rfl, SqL.of upd_same, (pairs_key pl).2, fun zs q1 g1 g2 nq => ?_⟩
    obtain ⟨es, pe, pm, srt2⟩ := sorted_out pl g1 g2
    refine ⟨q1, zs, rfl, .inl ⟨SqL.of upd_same, fun t9 nt9 => ?_⟩⟩
    have v3 := (same_new (o := .lst zs) nq).trans (same_new (o := .tup zs) nt9)
    have cl := (cl_of top (by rw [← ep]; exact hne) run nfr perm (m := m) (by rw [← ep]; exact hm) (by rw [← ep]; exact hml) pm srt2).1
    refine q _ t9 zs es (s1.trans (t2.trans (s3.trans (v1.trans (v2.trans v3))))) upd_same (pe.same v3) cl ?_
    rw [pm.length_eq, List.length_append]
    show ds.length + 1 ≤ _
    omega
end
end VQ

/-! the number of half-cycles in an up-set of ranges never grows when readings are left out -/
namespace K52
open KM PM RM RN RC
/-- a set of ranges that goes on to wider ones -/
structure Up (U : Int → Int → Bool) : Prop where
  up : ∀ {a b c d : Int}, c ≤ a → b ≤ d → U a b = true → U c d = true
  lt : ∀ {a b : Int}, U a b = true → a < b
inductive S where
  | no
  | bo (m M : Int)
  | up (m : Int)
  | dn (M : Int)
def mn (a b : Int) : Int := if a ≤ b then a else b
def mx (a b : Int) : Int := if a ≤ b then b else a
theorem mn1 (a b : Int) : mn a b ≤ a := by unfold mn; split <;> omega
theorem mn2 (a b : Int) : mn a b ≤ b := by unfold mn; split <;> omega
theorem mx1 (a b : Int) : a ≤ mx a b := by unfold mx; split <;> omega
theorem mx2 (a b : Int) : b ≤ mx a b := by unfold mx; split <;> omega
def nx (U : Int → Int → Bool) : S → Int → S
  | .no, r => .bo r r
  | .bo m M, r => if U m r = true then .dn r else if U r M = true then .up r else .bo (mn m r) (mx M r)
  | .up m, r => if U m r = true then .dn r else .up (mn m r)
  | .dn M, r => if U r M = true then .up r else .dn (mx M r)
def ky (U : Int → Int → Bool) : S → Int → Nat
  | .no, _ => 0
  | .bo m M, r => if U m r = true then 1 else if U r M = true then 1 else 0
  | .up m, r => if U m r = true then 1 else 0
  | .dn M, r => if U r M = true then 1 else 0
def g (U : Int → Int → Bool) : S → List Int → Nat
  | _, [] => 0
  | s, r :: l => ky U s r + g U (nx U s r) l
/-- what stands behind a reading -/
def Seen (U : Int → Int → Bool) : S → Int → Prop
  | .no, _ => False
  | .bo m M, a => m ≤ a ∧ a ≤ M ∧ U m M = false
  | .up m, a => m ≤ a ∧ U m a = false
  | .dn M, a => a ≤ M ∧ U a M = false
def Ok (U : Int → Int → Bool) : S → Prop
  | .bo m M => m ≤ M ∧ U m M = false
  | _ => True
section
variable {U : Int → Int → Bool}
theorem Up.no (h : Up U) {a b c d : Int} (h1 : c ≤ a) (h2 : b ≤ d) (e : U c d = false) : U a b = false := by
  cases x : U a b with
  | false => rfl
  | true => rw [h.up h1 h2 x] at e; exact e
theorem Up.ge (h : Up U) {a b : Int} (e : b ≤ a) : U a b = false := by
  cases x : U a b with
  | false => rfl
  | true => have := h.lt x; omega
theorem seen_nx (h : Up U) {s : S} {a : Int} (o : Ok U s) : Seen U (nx U s a) a ∧ Ok U (nx U s a) := by
  cases s with
  | no => exact ⟨⟨Int.le_refl _, Int.le_refl _, h.ge (Int.le_refl _)⟩, Int.le_refl _, h.ge (Int.le_refl _)⟩
  | bo m M =>
    obtain ⟨o1, o2⟩ := o
    simp only [nx]
    split
    · exact ⟨⟨Int.le_refl _, h.ge (Int.le_refl _)⟩, trivial⟩
    · split
      · exact ⟨⟨Int.le_refl _, h.ge (Int.le_refl _)⟩, trivial⟩
      · rename_i h1 h2
        have e : U (mn m a) (mx M a) = false := by
          unfold mn mx
          split <;> split
          · simpa using h1
          · exact o2
          · exact h.ge (by omega)
          · simpa using h2
        have := mn1 m a
        have := mx1 M a
        exact ⟨⟨mn2 _ _, mx2 _ _, e⟩, by omega, e⟩
  | up m =>
    simp only [nx]
    split
    · exact ⟨⟨Int.le_refl _, h.ge (Int.le_refl _)⟩, trivial⟩
    · rename_i h1
      refine ⟨⟨mn2 _ _, ?_⟩, trivial⟩
      unfold mn
      split
      · simpa using h1
      · exact h.ge (Int.le_refl _)
  | dn M =>
    simp only [nx]
    split
    · exact ⟨⟨Int.le_refl _, h.ge (Int.le_refl _)⟩, trivial⟩
    · rename_i h1
      refine ⟨⟨mx2 _ _, ?_⟩, trivial⟩
      unfold mx
      split
      · exact h.ge (Int.le_refl _)
      · simpa using h1
theorem nx_same (h : Up U) {s : S} {a : Int} (o : Seen U s a) : nx U s a = s ∧ ky U s a = 0 := by
  cases s with
  | no => exact o.elim
  | bo m M =>
    obtain ⟨o1, o2, o3⟩ := o
    have e1 := h.no (Int.le_refl m) o2 o3
    have e2 := h.no o1 (Int.le_refl M) o3
    simp only [nx, ky, e1, e2, mn, mx]
    constructor
    · rw [if_neg (by simp), if_neg (by simp), if_pos o1]
      split
      · rw [show M = a by omega]
      · rfl
    · simp
  | up m =>
    obtain ⟨o1, o2⟩ := o
    simp [nx, ky, o2, mn, o1]
  | dn M =>
    obtain ⟨o1, o2⟩ := o
    simp only [nx, ky, o2, mx]
    constructor
    · rw [if_neg (by simp)]
      split
      · rw [show M = a by omega]
      · rfl
    · simp
theorem g_same (h : Up U) {s : S} {a : Int} (o : Seen U s a) (l : List Int) : g U s (a :: l) = g U s l := by
  obtain ⟨e1, e2⟩ := nx_same h o
  show ky U s a + g U (nx U s a) l = _
  rw [e1, e2, Nat.zero_add]
def b2 (b : Bool) : Nat := if b = true then 1 else 0

theorem mnl {a b : Int} (h : a ≤ b) : mn a b = a := if_pos h
theorem mnr {a b : Int} (h : b ≤ a) : mn a b = b := by unfold mn; split <;> omega
theorem mxl {a b : Int} (h : b ≤ a) : mx a b = a := by unfold mx; split <;> omega
theorem mxr {a b : Int} (h : a ≤ b) : mx a b = b := if_pos h
theorem bo_u {m M r : Int} (e : U m r = true) (l : List Int) : g U (.bo m M) (r :: l) = 1 + g U (.dn r) l := by simp [g, nx, ky, e]
theorem bo_d {m M r : Int} (e1 : U m r = false) (e : U r M = true) (l : List Int) : g U (.bo m M) (r :: l) = 1 + g U (.up r) l := by simp [g, nx, ky, e, e1]
theorem bo_n {m M r : Int} (e1 : U m r = false) (e : U r M = false) (l : List Int) : g U (.bo m M) (r :: l) = g U (.bo (mn m r) (mx M r)) l := by simp [g, nx, ky, e, e1]
theorem up_y {m r : Int} (e : U m r = true) (l : List Int) : g U (.up m) (r :: l) = 1 + g U (.dn r) l := by simp [g, nx, ky, e]
theorem up_n {m r : Int} (e : U m r = false) (l : List Int) : g U (.up m) (r :: l) = g U (.up (mn m r)) l := by simp [g, nx, ky, e]
theorem dn_y {M r : Int} (e : U r M = true) (l : List Int) : g U (.dn M) (r :: l) = 1 + g U (.up r) l := by simp [g, nx, ky, e]
theorem dn_n {M r : Int} (e : U r M = false) (l : List Int) : g U (.dn M) (r :: l) = g U (.dn (mx M r)) l := by simp [g, nx, ky, e]
theorem no_1 {r : Int} (l : List Int) : g U .no (r :: l) = g U (.bo r r) l := by simp [g, nx, ky]
theorem four_up (h : Up U) {s : S} {a b c d : Int} (o : Seen U s a) (post : List Int) (h1 : a ≤ c) (h2 : c < b) (h3 : b ≤ d) : g U s (b :: c :: d :: post) = g U s (d :: post) + 2 * b2 (U c b) := by
  cases s with
  | no => exact o.elim
  | bo m M =>
    obtain ⟨o1, o2, o3⟩ := o
    cases e : U m b with
    | true =>
      have hb : M < b := by
        apply Classical.byContradiction; intro z
        rw [h.no (Int.le_refl m) (show b ≤ M by omega) o3] at e
        cases e
      rw [bo_u e, bo_u (h.up (Int.le_refl m) h3 e)]
      cases f : U c b with
      | true => rw [dn_y f, up_y (h.up (Int.le_refl c) h3 f)]; simp [b2]; omega
      | false => rw [dn_n f, mxl (by omega), dn_n (h.ge h3), mxr h3]; simp [b2]
    | false =>
      have f := h.no (show m ≤ c by omega) (Int.le_refl b) e
      rw [f, bo_n e (h.no (show m ≤ b by omega) (Int.le_refl M) o3), mnl (by omega)]
      have e2 : U c (mx M b) = false := by
        unfold mx; split
        · exact f
        · exact h.no (show m ≤ c by omega) (Int.le_refl M) o3
      have q1 := mx1 M b
      have q2 := mx2 M b
      rw [bo_n (h.no (Int.le_refl m) (show c ≤ b by omega) e) e2, mnl (by omega), mxl (show c ≤ mx M b by omega)]
      cases k : U m d with
      | true => rw [bo_u k, bo_u k]; simp [b2]
      | false =>
        have e3 : U d (mx M b) = false := by
          unfold mx; split
          · exact h.ge h3
          · exact h.no (show m ≤ d by omega) (Int.le_refl M) o3
        rw [bo_n k e3, bo_n k (h.no (show m ≤ d by omega) (Int.le_refl M) o3)]
        have : mx (mx M b) d = mx M d := by unfold mx; repeat (first | split | omega)
        rw [this]; simp [b2]
  | up m =>
    obtain ⟨o1, o2⟩ := o
    cases e : U m b with
    | true =>
      rw [up_y e, up_y (h.up (Int.le_refl m) h3 e)]
      cases f : U c b with
      | true => rw [dn_y f, up_y (h.up (Int.le_refl c) h3 f)]; simp [b2]; omega
      | false => rw [dn_n f, mxl (by omega), dn_n (h.ge h3), mxr h3]; simp [b2]
    | false =>
      rw [h.no (show m ≤ c by omega) (Int.le_refl b) e, up_n e, mnl (by omega), up_n (h.no (Int.le_refl m) (show c ≤ b by omega) e), mnl (by omega)]
      simp [b2]
  | dn M =>
    obtain ⟨o1, o2⟩ := o
    rw [dn_n (h.no (show a ≤ b by omega) (Int.le_refl M) o2)]
    by_cases q : b ≤ M
    · rw [mxl q, dn_n (h.no h1 (Int.le_refl M) o2), mxl (by omega), h.no h1 q o2]; simp [b2]
    · rw [mxr (by omega), dn_n (h.ge (show M ≤ d by omega)), mxr (show M ≤ d by omega)]
      cases f : U c b with
      | true => rw [dn_y f, up_y (h.up (Int.le_refl c) h3 f)]; simp [b2]; omega
      | false => rw [dn_n f, mxl (by omega), dn_n (h.ge h3), mxr h3]; simp [b2]
theorem four_down (h : Up U) {s : S} {a b c d : Int} (o : Seen U s a) (post : List Int) (h1 : c ≤ a) (h2 : b < c) (h3 : d ≤ b) : g U s (b :: c :: d :: post) = g U s (d :: post) + 2 * b2 (U b c) := by
  cases s with
  | no => exact o.elim
  | bo m M =>
    obtain ⟨o1, o2, o3⟩ := o
    rw [show g U (.bo m M) (b :: c :: d :: post) = _ from rfl]
    have k1 := h.no (Int.le_refl m) (show b ≤ M by omega) o3
    have k2 := h.no (Int.le_refl m) (show d ≤ M by omega) o3
    cases e : U b M with
    | true =>
      have hb : b < m := by
        apply Classical.byContradiction; intro z
        rw [h.no (show m ≤ b by omega) (Int.le_refl M) o3] at e
        cases e
      rw [bo_d k1 e, bo_d k2 (h.up h3 (Int.le_refl M) e)]
      cases f : U b c with
      | true => rw [up_y f, dn_y (h.up h3 (Int.le_refl c) f)]; simp [b2]; omega
      | false => rw [up_n f, mnl (by omega), up_n (h.ge h3), mnr h3]; simp [b2]
    | false =>
      have f := h.no (Int.le_refl b) (show c ≤ M by omega) e
      rw [f, bo_n k1 e, mxl (show b ≤ M by omega)]
      have q1 := mn1 m b
      have q2 := mn2 m b
      have e2 : U (mn m b) c = false := by
        unfold mn; split
        · exact h.no (Int.le_refl m) (show c ≤ M by omega) o3
        · exact f
      rw [bo_n e2 (h.no (show b ≤ c by omega) (Int.le_refl M) e), mnl (show mn m b ≤ c by omega), mxl (show c ≤ M by omega)]
      have e3 : U (mn m b) d = false := by
        unfold mn; split
        · exact k2
        · exact h.ge h3
      cases k : U d M with
      | true => rw [bo_d e3 k, bo_d k2 k]; simp [b2]
      | false =>
        rw [bo_n e3 k, bo_n k2 k]
        have : mn (mn m b) d = mn m d := by unfold mn; repeat (first | split | omega)
        rw [this]; simp [b2]
  | up m =>
    obtain ⟨o1, o2⟩ := o
    rw [up_n (h.no (Int.le_refl m) (show b ≤ a by omega) o2)]
    by_cases q : m ≤ b
    · rw [mnl q, up_n (h.no (Int.le_refl m) h1 o2), mnl (by omega), h.no q h1 o2]; simp [b2]
    · rw [mnr (by omega), up_n (h.ge (show d ≤ m by omega)), mnr (show d ≤ m by omega)]
      cases f : U b c with
      | true => rw [up_y f, dn_y (h.up h3 (Int.le_refl c) f)]; simp [b2]; omega
      | false => rw [up_n f, mnl (by omega), up_n (h.ge h3), mnr h3]; simp [b2]
  | dn M =>
    obtain ⟨o1, o2⟩ := o
    cases e : U b M with
    | true =>
      rw [dn_y e, dn_y (h.up h3 (Int.le_refl M) e)]
      cases f : U b c with
      | true => rw [up_y f, dn_y (h.up h3 (Int.le_refl c) f)]; simp [b2]; omega
      | false => rw [up_n f, mnl (by omega), up_n (h.ge h3), mnr h3]; simp [b2]
    | false =>
      rw [h.no (Int.le_refl b) (show c ≤ M by omega) e, dn_n e, mxl (by omega), dn_n (h.no (show b ≤ c by omega) (Int.le_refl M) e), mxl (by omega)]
      simp [b2]
theorem g_btw (h : Up U) {s : S} {b a r : Int} (o : Seen U s b) (l : List Int) (z : Btw a b r) : g U s (a :: r :: l) = g U s (r :: l) := by
  rcases (show (b ≤ a ∧ a ≤ r) ∨ (r ≤ a ∧ a ≤ b) from by unfold Btw at z; omega) with ⟨h1, h2⟩ | ⟨h1, h2⟩
  · cases s with
    | no => exact o.elim
    | up m =>
      obtain ⟨o1, o2⟩ := o
      cases e : U m a with
      | true => rw [up_y e, dn_n (h.ge h2), mxr h2, up_y (h.up (Int.le_refl m) h2 e)]
      | false => rw [up_n e, mnl (by omega)]
    | dn M =>
      obtain ⟨o1, o2⟩ := o
      rw [dn_n (h.no h1 (Int.le_refl M) o2)]
      by_cases q : a ≤ M
      · rw [mxl q]
      · rw [mxr (by omega), dn_n (h.ge h2), mxr h2, dn_n (h.ge (show M ≤ r by omega)), mxr (show M ≤ r by omega)]
    | bo m M =>
      obtain ⟨o1, o2, o3⟩ := o
      have n3 := h.no (show m ≤ r by omega) (Int.le_refl M) o3
      cases e : U m a with
      | true => rw [bo_u e, dn_n (h.ge h2), mxr h2, bo_u (h.up (Int.le_refl m) h2 e)]
      | false =>
        rw [bo_n e (h.no (show m ≤ a by omega) (Int.le_refl M) o3), mnl (by omega)]
        cases k : U m r with
        | true => rw [bo_u k, bo_u k]
        | false =>
          have e3 : U r (mx M a) = false := by
            unfold mx; split
            · exact h.ge h2
            · exact n3
          rw [bo_n k e3, bo_n k n3]
          have : mx (mx M a) r = mx M r := by unfold mx; repeat (first | split | omega)
          rw [this]
  · cases s with
    | no => exact o.elim
    | dn M =>
      obtain ⟨o1, o2⟩ := o
      cases e : U a M with
      | true => rw [dn_y e, up_n (h.ge h1), mnr h1, dn_y (h.up h1 (Int.le_refl M) e)]
      | false => rw [dn_n e, mxl (by omega)]
    | up m =>
      obtain ⟨o1, o2⟩ := o
      rw [up_n (h.no (Int.le_refl m) h2 o2)]
      by_cases q : m ≤ a
      · rw [mnl q]
      · rw [mnr (by omega), up_n (h.ge h1), mnr h1, up_n (h.ge (show r ≤ m by omega)), mnr (show r ≤ m by omega)]
    | bo m M =>
      obtain ⟨o1, o2, o3⟩ := o
      have n3 := h.no (Int.le_refl m) (show r ≤ M by omega) o3
      have n4 := h.no (Int.le_refl m) (show a ≤ M by omega) o3
      cases e : U a M with
      | true => rw [bo_d n4 e, up_n (h.ge h1), mnr h1, bo_d n3 (h.up h1 (Int.le_refl M) e)]
      | false =>
        rw [bo_n n4 e, mxl (by omega)]
        have e3 : U (mn m a) r = false := by
          unfold mn; split
          · exact n3
          · exact h.ge h1
        cases k : U r M with
        | true => rw [bo_d e3 k, bo_d n3 k]
        | false =>
          rw [bo_n e3 k, bo_n n3 k]
          have : mn (mn m a) r = mn m r := by unfold mn; repeat (first | split | omega)
          rw [this]
theorem g_cons (s : S) (r : Int) (l : List Int) : g U s (r :: l) = ky U s r + g U (nx U s r) l := rfl
/-- how many ranges are in the set -/
def nU (U : Int → Int → Bool) (rs : List (Int × Int)) : Nat := rs.countP fun r => U r.1 r.2
theorem nU_cons (r : Int × Int) (rs : List (Int × Int)) : nU U (r :: rs) = b2 (U r.1 r.2) + nU U rs := by
  unfold nU b2
  rw [List.countP_cons]
  omega
theorem g_step (h : Up U) {p q : List Int} {c : Int × Int} (t : Step p c q) : ZZ p → ∀ s, Ok U s → g U s p = g U s q + 2 * b2 (U c.1 c.2) := by
  induction t with
  | @here a b c d post t =>
    intro z s o
    have sn := (seen_nx h (a := a) o).1
    rcases (taken_iff z.four).mp t with ⟨x1, x2, x3, x4, x5⟩ | ⟨x1, x2, x3, x4, x5⟩
    · rw [rg_down x2, g_cons, g_cons s a (d :: post), four_up h sn post x4 x2 x5]; dsimp only; omega
    · rw [rg_up x2, g_cons, g_cons s a (d :: post), four_down h sn post x4 x2 x5]; dsimp only; omega
  | @there x p q cy t ih =>
    intro z s o
    rw [g_cons, g_cons, ih z.tail _ (seen_nx h o).2]
    omega
theorem g_run (h : Up U) {p q : List Int} {cs : List (Int × Int)} (t : Run p cs q) : ZZ p → ∀ s, Ok U s → g U s p = g U s q + 2 * nU U cs := by
  induction t with
  | nil p => intro _ s _; rfl
  | cons t _ ih =>
    intro z s o
    rw [g_step h t z s o, ih (ZZ.step t z) s o, nU_cons]
    omega
theorem g_tq (h : Up U) : ∀ (l : List Int) (s : S) (b a : Int), Seen U s b → Ok U s → g U s (tq b a l) = g U s (a :: l)
  | [], _, _, _, _, _ => rfl
  | r :: l, s, b, a, o, k => by
    simp only [tq]
    by_cases e : a = r
    · rw [if_pos e, g_tq h l s b a o k, ← e, g_cons, g_cons s a (a :: l), g_same h (seen_nx h k).1]
    · rw [if_neg e]
      by_cases bt : Btw a b r
      · rw [if_pos bt, g_tq h l s b r o k, g_btw h o l bt]
      · rw [if_neg bt, g_cons, g_cons s a (r :: l), g_tq h l _ a r (seen_nx h k).1 (seen_nx h k).2]
theorem g_ts (h : Up U) : ∀ (l : List Int) (s : S) (a : Int), Ok U s → g U s (ts a l) = g U s (a :: l)
  | [], _, _, _ => rfl
  | r :: l, s, a, k => by
    simp only [ts]
    by_cases e : a = r
    · rw [if_pos e, g_ts h l s a k, ← e, g_cons, g_cons s a (a :: l), g_same h (seen_nx h k).1]
    · rw [if_neg e, g_cons, g_cons s a (r :: l), g_tq h l _ a r (seen_nx h k).1 (seen_nx h k).2]
theorem g_tp (h : Up U) (ns : List Int) : g U .no (tp ns) = g U .no ns := by
  cases ns with
  | nil => rfl
  | cons a l => exact g_ts h l .no a trivial
theorem dn_bo (h : Up U) {M : Int} : ∀ (r : List Int) (m : Int), (∀ w ∈ r, w ≤ M) → m ≤ M → U m M = false → g U (.dn M) r = g U (.bo m M) r
  | [], _, _, _, _ => rfl
  | w :: r, m, hw, hm, e => by
    have w1 := hw w List.mem_cons_self
    have e1 := h.no (Int.le_refl m) w1 e
    cases k : U w M with
    | true => rw [dn_y k, bo_d e1 k]
    | false =>
      rw [dn_n k, bo_n e1 k, mxl w1]
      refine dn_bo h r _ (fun v hv => hw v (List.mem_cons_of_mem _ hv)) ?_ ?_
      · have := mn1 m w; omega
      · unfold mn; split
        · exact e
        · exact k
theorem up_bo (h : Up U) {m : Int} : ∀ (r : List Int) (M : Int), (∀ w ∈ r, m ≤ w) → m ≤ M → U m M = false → g U (.up m) r = g U (.bo m M) r
  | [], _, _, _, _ => rfl
  | w :: r, M, hw, hm, e => by
    have w1 := hw w List.mem_cons_self
    have e1 := h.no w1 (Int.le_refl M) e
    cases k : U m w with
    | true => rw [up_y k, bo_u k]
    | false =>
      rw [up_n k, bo_n k e1, mnl w1]
      refine up_bo h r _ (fun v hv => hw v (List.mem_cons_of_mem _ hv)) ?_ ?_
      · have := mx1 M w; omega
      · unfold mx; split
        · exact k
        · exact e
theorem bo_none (h : Up U) {u v : Int} (e : U u v = false) : ∀ (r : List Int) (m M : Int), (∀ w ∈ r, u ≤ w ∧ w ≤ v) → u ≤ m → M ≤ v → g U (.bo m M) r = 0
  | [], _, _, _, _, _ => rfl
  | w :: r, m, M, hw, hm, hM => by
    have w1 := hw w List.mem_cons_self
    rw [bo_n (h.no hm w1.2 e) (h.no w1.1 hM e)]
    refine bo_none h e r _ _ (fun x hx => hw x (List.mem_cons_of_mem _ hx)) ?_ ?_
    · unfold mn; split <;> omega
    · unfold mx; split <;> omega
theorem con_one (h : Up U) {x y : Int} {r : List Int} (c : In (if x < y then x else y) (if x < y then y else x) (x :: y :: r)) (ne : x ≠ y) : g U .no (x :: y :: r) = b2 (U (rg x y).1 (rg x y).2) + g U .no (y :: r) := by
  have ge := h.ge (Int.le_refl y)
  rcases (show x < y ∨ y < x by omega) with h1 | h1
  · rw [if_pos h1, if_pos h1] at c
    have cr : ∀ w ∈ r, x ≤ w ∧ w ≤ y := fun w hw => c w (List.mem_cons_of_mem _ (List.mem_cons_of_mem _ hw))
    rw [rg_up h1, no_1, no_1]
    show _ = b2 (U x y) + _
    cases e : U x y with
    | true => rw [bo_u e, dn_bo h r y (fun w hw => (cr w hw).2) (Int.le_refl y) ge]; simp [b2]
    | false => rw [bo_n e (h.ge (show x ≤ y by omega)), mnl (by omega), mxr (by omega), bo_none h e r x y cr (Int.le_refl _) (Int.le_refl _), bo_none h e r y y cr (by omega) (Int.le_refl _)]; simp [b2]
  · rw [if_neg (by omega), if_neg (by omega)] at c
    have cr : ∀ w ∈ r, y ≤ w ∧ w ≤ x := fun w hw => c w (List.mem_cons_of_mem _ (List.mem_cons_of_mem _ hw))
    rw [rg_down h1, no_1, no_1]
    show _ = b2 (U y x) + _
    have f := h.ge (show y ≤ x by omega)
    cases e : U y x with
    | true => rw [bo_d f e, up_bo h r y (fun w hw => (cr w hw).1) (Int.le_refl y) ge]; simp [b2]
    | false => rw [bo_n f e, mnr (by omega), mxl (by omega), bo_none h e r y x cr (Int.le_refl _) (Int.le_refl _), bo_none h e r y y cr (Int.le_refl _) (by omega)]; simp [b2]
theorem wide_one (h : Up U) {x y z : Int} {r : List Int} (k : (y < x ∧ x < z) ∨ (x < y ∧ z < x)) : g U .no (x :: y :: z :: r) = b2 (U (rg x y).1 (rg x y).2) + g U .no (y :: z :: r) := by
  rcases k with ⟨h1, h2⟩ | ⟨h1, h2⟩
  · rw [rg_down h1, no_1, no_1]
    show _ = b2 (U y x) + _
    have f := h.ge (show y ≤ x by omega)
    have fz := h.ge (show y ≤ z by omega)
    cases e : U y x with
    | true =>
      have k := h.up (Int.le_refl y) (show x ≤ z by omega) e
      rw [bo_d f e, up_y k, bo_u k]; simp [b2]
    | false =>
      rw [bo_n f e, mnr (by omega), mxl (by omega)]
      cases k : U y z with
      | true => rw [bo_u k, bo_u k]; simp [b2]
      | false => rw [bo_n k (h.ge (show x ≤ z by omega)), bo_n k fz, mxr (show x ≤ z by omega), mxr (show y ≤ z by omega)]; simp [b2]
  · rw [rg_up h1, no_1, no_1]
    show _ = b2 (U x y) + _
    have f := h.ge (show x ≤ y by omega)
    have fz := h.ge (show z ≤ y by omega)
    cases e : U x y with
    | true =>
      have k := h.up (show z ≤ x by omega) (Int.le_refl y) e
      rw [bo_u e, dn_y k, bo_d fz k]; simp [b2]
    | false =>
      rw [bo_n e f, mnl (by omega), mxr (by omega)]
      cases k : U z y with
      | true => rw [bo_d (h.ge (show z ≤ x by omega)) k, bo_d fz k]; simp [b2]
      | false => rw [bo_n (h.ge (show z ≤ x by omega)) k, bo_n fz k, mnr (show z ≤ x by omega), mnr (show z ≤ y by omega)]; simp [b2]
theorem nf_g (h : Up U) : ∀ (ps : List Int), ZZ ps → NF ps → g U .no ps = nU U (sw ps)
  | [], _, _ => rfl
  | [x], _, _ => rfl
  | [x, y], zz, _ => by
    have zz : x ≠ y := zz
    show _ = nU U [rg x y]
    rw [nU_cons, con_one h (Con.inside (r := []) (x := x) (y := y) (show Con [x, y] from trivial) zz) zz]
    rfl
  | x :: y :: z :: r, zz, n => by
    have ih := nf_g h (y :: z :: r) zz.2 (fun c q s => n _ _ (.there s))
    show _ = nU U (rg x y :: sw (y :: z :: r))
    rw [nU_cons, ← ih]
    have z1 := zz.1
    by_cases k : (y < x ∧ z ≤ x) ∨ (x < y ∧ x ≤ z)
    · exact con_one h (Con.inside (nf_con zz n k) (by omega)) (by omega)
    · exact wide_one h (by omega)
/-- the half-cycles of a load that are in the set -/
theorem count_g (h : Up U) {ns rs : List Int} {cs : List (Int × Int)} (t : Run (tp ns) cs rs) (n : NF rs) : g U .no ns = 2 * nU U cs + nU U (sw rs) := by
  rw [← g_tp h, g_run h t (tp_zz ns) .no trivial, nf_g h rs (t.zz (tp_zz ns)) n]
  omega
/-! readings left out -/
def R (U : Int → Int → Bool) : S → S → Nat → Prop
  | .no, .no, k => k = 0
  | .no, .bo m M, k => k = 0 ∧ m ≤ M ∧ U m M = false
  | .no, .up _, k => 1 ≤ k
  | .no, .dn _, k => 1 ≤ k
  | .bo m M, .bo m2 M2, k => k = 0 ∧ m2 ≤ m ∧ M ≤ M2 ∧ m ≤ M ∧ U m2 M2 = false
  | .bo m _, .up m2, k => 2 ≤ k ∨ (k = 1 ∧ m2 ≤ m)
  | .bo _ M, .dn M2, k => 2 ≤ k ∨ (k = 1 ∧ M ≤ M2)
  | .up m, .up m2, k => 2 ≤ k ∨ m2 ≤ m
  | .dn M, .dn M2, k => 2 ≤ k ∨ M ≤ M2
  | .up _, .dn _, k => 1 ≤ k
  | .dn _, .up _, k => 1 ≤ k
  | _, _, _ => False

theorem R_skip (h : Up U) {s t : S} {k : Nat} (r : Int) (hR : R U s t k) : R U s (nx U t r) (k + ky U t r) := by
  have hup := @Up.up U h
  have hlt := @Up.lt U h
  cases s <;> cases t <;> simp only [R] at hR <;> (try exact hR.elim) <;> simp only [nx, ky] <;> (repeat' split) <;> simp only [R, mn, mx] <;> grind
theorem R_both (h : Up U) {s t : S} {k : Nat} (r : Int) (hR : R U s t k) : ky U s r ≤ k + ky U t r ∧ R U (nx U s r) (nx U t r) (k + ky U t r - ky U s r) := by
  have hup := @Up.up U h
  have hlt := @Up.lt U h
  cases s <;> cases t <;> simp only [R] at hR <;> (try exact hR.elim) <;> simp only [nx, ky] <;> (repeat' split) <;> simp only [R, mn, mx] <;> grind
theorem g_sub (h : Up U) {l m : List Int} (t : l.Sublist m) : ∀ (s u : S) (k : Nat), R U s u k → g U s l ≤ k + g U u m := by
  induction t with
  | slnil => intro s u k _; exact Nat.zero_le _
  | cons r _ ih =>
    intro s u k hR
    have := ih _ _ _ (R_skip h r hR)
    rw [g_cons u]
    omega
  | cons_cons r _ ih =>
    intro s u k hR
    obtain ⟨e, hR2⟩ := R_both h r hR
    have := ih _ _ _ hR2
    rw [g_cons u, g_cons s]
    omega
theorem sub_le (h : Up U) {l m : List Int} (t : l.Sublist m) : g U .no l ≤ g U .no m := by
  have := g_sub h t .no .no 0 rfl
  omega
end
end K52

/-! amounts and wear of tables -/
namespace K52b
open KM PM RM RN RC K52
def top : List Int → Int
  | [] => 0
  | n :: ns => ns.foldl max n
theorem fold_max : ∀ (l : List Int) (n t : Int), t < l.foldl max n ↔ t < n ∨ ∃ x ∈ l, t < x
  | [], n, t => by simp
  | a :: l, n, t => by
    rw [List.foldl_cons, fold_max l (max n a) t]
    constructor
    · rintro (h | ⟨x, hx, h⟩)
      · rcases (show t < n ∨ t < a by omega) with h | h
        · exact .inl h
        · exact .inr ⟨a, List.mem_cons_self, h⟩
      · exact .inr ⟨x, List.mem_cons_of_mem _ hx, h⟩
    · rintro (h | ⟨x, hx, h⟩)
      · exact .inl (by omega)
      · rcases List.mem_cons.mp hx with e | hx
        · subst e; exact .inl (by omega)
        · exact .inr ⟨x, hx, h⟩
theorem top_lt (l : List Int) {t : Int} (h : 0 ≤ t) : t < top l ↔ ∃ x ∈ l, t < x := by
  cases l with
  | nil =>
    show t < 0 ↔ _
    constructor
    · intro z; omega
    · rintro ⟨x, hx, _⟩; exact (List.not_mem_nil hx).elim
  | cons n ns =>
    show t < ns.foldl max n ↔ _
    rw [fold_max]
    constructor
    · rintro (z | ⟨x, hx, z⟩)
      · exact ⟨n, List.mem_cons_self, z⟩
      · exact ⟨x, List.mem_cons_of_mem _ hx, z⟩
    · rintro ⟨x, hx, z⟩
      rcases List.mem_cons.mp hx with e | hx
      · subst e; exact .inl z
      · exact .inr ⟨x, hx, z⟩
theorem top_nonneg {l : List Int} (h : ∀ x ∈ l, 0 ≤ x) : 0 ≤ top l := by
  cases l with
  | nil => exact Int.le_refl _
  | cons n ns =>
    have h0 := h n List.mem_cons_self
    apply Classical.byContradiction
    intro z
    have := (fold_max ns n (n - 1)).mpr (.inl (by omega))
    have e : top (n :: ns) = ns.foldl max n := rfl
    omega
abbrev Ent := Int × Int × Int
def Good (T : List Ent) : Prop := ∀ e ∈ T, e.1 < e.2.1 ∧ 0 ≤ e.2.2
def has (lo hi : Int) (e : Ent) : Bool := decide (lo ≤ e.1) && decide (e.2.1 ≤ hi)
def amts (T : List Ent) (lo hi : Int) : List Int := (T.filter (has lo hi)).map (·.2.2)
def amt (T : List Ent) (lo hi : Int) : Int := top (amts T lo hi)
theorem has_iff {lo hi : Int} {e : Ent} : has lo hi e = true ↔ lo ≤ e.1 ∧ e.2.1 ≤ hi := by unfold has; simp
theorem amt_lt (T : List Ent) (lo hi : Int) {t : Int} (h : 0 ≤ t) : t < amt T lo hi ↔ ∃ e ∈ T, (lo ≤ e.1 ∧ e.2.1 ≤ hi) ∧ t < e.2.2 := by
  unfold amt
  rw [top_lt _ h]
  unfold amts
  constructor
  · rintro ⟨x, hx, z⟩
    obtain ⟨e, he, rfl⟩ := List.mem_map.mp hx
    obtain ⟨e1, e2⟩ := List.mem_filter.mp he
    exact ⟨e, e1, has_iff.mp e2, z⟩
  · rintro ⟨e, he, h2, z⟩
    exact ⟨e.2.2, List.mem_map.mpr ⟨e, List.mem_filter.mpr ⟨he, has_iff.mpr h2⟩, rfl⟩, z⟩
theorem amt_nonneg {T : List Ent} (g : Good T) (lo hi : Int) : 0 ≤ amt T lo hi := by
  refine top_nonneg fun x hx => ?_
  obtain ⟨e, he, rfl⟩ := List.mem_map.mp hx
  exact (g e (List.mem_filter.mp he).1).2
theorem same_lt {a b : Int} (h1 : 0 ≤ a) (h2 : 0 ≤ b) (h : ∀ t, 0 ≤ t → (t < a ↔ t < b)) : a = b := by
  apply Classical.byContradiction
  intro z
  rcases (show a < b ∨ b < a by omega) with k | k
  · have := (h a h1).mpr k; omega
  · have := (h b h2).mp k; omega
theorem Good.app {T S : List Ent} (g : Good T) (h : Good S) : Good (T ++ S) := fun e he => (List.mem_append.mp he).elim (g e) (h e)
theorem Good.rev {T : List Ent} (g : Good T) : Good T.reverse := fun e he => g e (List.mem_reverse.mp he)
theorem good_one {e : Ent} (h : e.1 < e.2.1 ∧ 0 ≤ e.2.2) : Good [e] := fun f hf => by rw [List.mem_singleton.mp hf]; exact h
theorem amt_app {T : List Ent} (g : Good T) {e : Ent} (k : e.1 < e.2.1 ∧ 0 ≤ e.2.2) (lo hi : Int) : amt (T ++ [e]) lo hi = if (decide (lo ≤ e.1) && decide (e.2.1 ≤ hi)) = true then (if e.2.2 > amt T lo hi then e.2.2 else amt T lo hi) else amt T lo hi := by
  have n1 := amt_nonneg g lo hi
  have n2 := amt_nonneg (g.app (good_one k)) lo hi
  refine same_lt n2 (by split <;> (try split) <;> omega) fun t ht => ?_
  have f := amt_lt T lo hi ht
  rw [amt_lt _ lo hi ht]
  constructor
  · rintro ⟨x, hx, hh, z⟩
    rcases List.mem_append.mp hx with m | m
    · have := f.mpr ⟨x, m, hh, z⟩
      split <;> (try split) <;> omega
    · rw [List.mem_singleton.mp m] at hh z
      rw [if_pos (by simpa using hh)]
      split <;> omega
  · intro z
    have old : t < amt T lo hi → ∃ x ∈ T ++ [e], (lo ≤ x.1 ∧ x.2.1 ≤ hi) ∧ t < x.2.2 := fun q => by
      obtain ⟨x, m, hh, z⟩ := f.mp q
      exact ⟨x, List.mem_append_left _ m, hh, z⟩
    split at z
    · rename_i hh
      split at z
      · exact ⟨e, List.mem_append_right _ List.mem_cons_self, by simpa using hh, z⟩
      · exact old z
    · exact old z
theorem amt_idle {T : List Ent} (g : Good T) {e : Ent} (k : e.1 < e.2.1 ∧ e.2.2 = 0) (lo hi : Int) : amt (T.reverse ++ T ++ [e]) lo hi = amt T lo hi := by
  refine same_lt (amt_nonneg ((g.rev.app g).app (good_one ⟨k.1, by omega⟩)) lo hi) (amt_nonneg g lo hi) fun t ht => ?_
  rw [amt_lt _ lo hi ht, amt_lt _ lo hi ht]
  constructor
  · rintro ⟨x, hx, hh, z⟩
    rcases List.mem_append.mp hx with m | m
    · rcases List.mem_append.mp m with m | m
      · exact ⟨x, List.mem_reverse.mp m, hh, z⟩
      · exact ⟨x, m, hh, z⟩
    · rw [List.mem_singleton.mp m] at z
      omega
  · rintro ⟨x, m, hh, z⟩
    exact ⟨x, List.mem_append_left _ (List.mem_append_right _ m), hh, z⟩
theorem amt_mono {T : List Ent} (g : Good T) {lo hi lo2 hi2 : Int} (h1 : lo ≤ lo2) (h2 : hi2 ≤ hi) : amt T lo2 hi2 ≤ amt T lo hi := by
  apply Classical.byContradiction
  intro z
  have n := amt_nonneg g lo hi
  obtain ⟨x, m, hh, k⟩ := (amt_lt T lo2 hi2 n).mp (by omega)
  have := (amt_lt T lo hi n).mpr ⟨x, m, by omega, k⟩
  omega
def wear (T : List Ent) (rs : List (Int × Int)) : Int := (rs.map fun r => amt T r.1 r.2).sum
theorem wear_app (T : List Ent) (rs ss : List (Int × Int)) : wear T (rs ++ ss) = wear T rs + wear T ss := by
  unfold wear
  rw [List.map_append, List.sum_append]
def Ut (T : List Ent) (t : Nat) (a b : Int) : Bool := decide ((t : Int) < amt T a b)
theorem up_t {T : List Ent} (g : Good T) (t : Nat) : Up (Ut T t) := by
  constructor
  · intro a b c d h1 h2 h
    have h := of_decide_eq_true h
    have := amt_mono g h1 h2
    exact decide_eq_true (by omega)
  · intro a b h
    have h := of_decide_eq_true h
    obtain ⟨x, m, hh, _⟩ := (amt_lt T a b (Int.natCast_nonneg t)).mp h
    have := (g x m).1
    omega
def cut (T : List Ent) (M : Nat) (rs : List (Int × Int)) : Int := (rs.map fun r => if amt T r.1 r.2 ≤ M then amt T r.1 r.2 else (M : Int)).sum
theorem cut_succ {T : List Ent} (g : Good T) (M : Nat) : ∀ rs : List (Int × Int), cut T (M + 1) rs = cut T M rs + nU (Ut T M) rs
  | [] => rfl
  | r :: rs => by
    have ih := cut_succ g M rs
    rw [nU_cons]
    show (if amt T r.1 r.2 ≤ ((M + 1 : Nat) : Int) then amt T r.1 r.2 else ((M + 1 : Nat) : Int)) + cut T (M + 1) rs = (if amt T r.1 r.2 ≤ (M : Int) then amt T r.1 r.2 else (M : Int)) + cut T M rs + _
    rw [ih]
    have e : Ut T M r.1 r.2 = decide ((M : Int) < amt T r.1 r.2) := rfl
    by_cases h : (M : Int) < amt T r.1 r.2
    · have e2 : b2 (Ut T M r.1 r.2) = 1 := by rw [e, decide_eq_true h]; rfl
      rw [e2, if_neg (by omega : ¬ amt T r.1 r.2 ≤ (M : Int))]
      split <;> omega
    · have e2 : b2 (Ut T M r.1 r.2) = 0 := by rw [e, decide_eq_false h]; rfl
      rw [e2, if_pos (by omega), if_pos (by omega)]
      omega
theorem cut_zero {T : List Ent} (g : Good T) : ∀ rs : List (Int × Int), cut T 0 rs = 0
  | [] => rfl
  | r :: rs => by
    have ih := cut_zero g rs
    have := amt_nonneg g r.1 r.2
    show (if amt T r.1 r.2 ≤ ((0 : Nat) : Int) then amt T r.1 r.2 else ((0 : Nat) : Int)) + cut T 0 rs = 0
    rw [ih]
    split <;> omega
theorem wear_nonneg {T : List Ent} (g : Good T) : ∀ rs : List (Int × Int), 0 ≤ wear T rs
  | [] => Int.le_refl _
  | r :: rs => by
    have ih := wear_nonneg g rs
    have := amt_nonneg g r.1 r.2
    show 0 ≤ amt T r.1 r.2 + wear T rs
    omega
theorem cut_all {T : List Ent} (g : Good T) (M : Nat) : ∀ rs : List (Int × Int), wear T rs ≤ M → cut T M rs = wear T rs
  | [], _ => rfl
  | r :: rs, h => by
    have n1 := wear_nonneg g rs
    have n2 := amt_nonneg g r.1 r.2
    have h2 : amt T r.1 r.2 + wear T rs ≤ M := h
    have ih := cut_all g M rs (by omega)
    show (if amt T r.1 r.2 ≤ (M : Int) then amt T r.1 r.2 else (M : Int)) + cut T M rs = amt T r.1 r.2 + wear T rs
    rw [ih, if_pos (by omega)]
theorem wear_le {T : List Ent} (g : Good T) {rs ss : List (Int × Int)} (h : ∀ U, Up U → nU U rs ≤ nU U ss) : wear T rs ≤ wear T ss := by
  have key : ∀ M, cut T M rs ≤ cut T M ss := by
    intro M
    induction M with
    | zero => rw [cut_zero g, cut_zero g]; exact Int.le_refl _
    | succ M ih =>
      rw [cut_succ g, cut_succ g]
      have := h _ (up_t g M)
      omega
  have n1 := wear_nonneg g rs
  have n2 := wear_nonneg g ss
  have k := key (wear T rs + wear T ss).toNat
  rw [cut_all g _ rs (by omega), cut_all g _ ss (by omega)] at k
  exact k
/-- a load with readings left out wears no more -/
theorem wear_sub {T : List Ent} (g : Good T) {less load : List Int} (t : less.Sublist load) {cs ds cs2 ds2 : List (Int × Int)} {rs rs2 : List Int} {hs hs2 : List (Int × Int)}
    (r : Run (tp load) cs rs) (n : NF rs) (p : ds.Perm cs) (h : hs.Perm (ds ++ ds ++ sw rs)) (r2 : Run (tp less) cs2 rs2) (n2 : NF rs2) (p2 : ds2.Perm cs2) (h2 : hs2.Perm (ds2 ++ ds2 ++ sw rs2)) : wear T hs2 ≤ wear T hs := by
  refine wear_le g fun U up => ?_
  have c1 := count_g up r n
  have c2 := count_g up r2 n2
  have := sub_le up t
  have e1 : nU U hs = 2 * nU U cs + nU U (sw rs) := by
    have q : nU U ds = nU U cs := p.countP_eq _
    have : nU U hs = nU U (ds ++ ds ++ sw rs) := h.countP_eq _
    rw [this]
    unfold nU at *
    rw [List.countP_append, List.countP_append, q]
    omega
  have e2 : nU U hs2 = 2 * nU U cs2 + nU U (sw rs2) := by
    have q : nU U ds2 = nU U cs2 := p2.countP_eq _
    have : nU U hs2 = nU U (ds2 ++ ds2 ++ sw rs2) := h2.countP_eq _
    rw [this]
    unfold nU at *
    rw [List.countP_append, List.countP_append, q]
    omega
  omega
end K52b

/-! max(xs, default=d) of a list of ints -/
namespace GM
open PySem PySem.Spec PyProof.Rows L2 PH
def topD (d : Int) : List Int → Int
  | [] => d
  | n :: ns => ns.foldl max n
theorem alike_ints (ns : List Int) : PySem.W.AlikeAll (ns.map PyData.int) := by
  refine ⟨fun x hx y hy => ?_, fun x hx => ?_⟩
  · obtain ⟨a, _, rfl⟩ := List.mem_map.mp hx
    obtain ⟨b, _, rfl⟩ := List.mem_map.mp hy
    rfl
  · obtain ⟨a, _, rfl⟩ := List.mem_map.mp hx
    intro h
    cases h
theorem depth_ints : ∀ ns : List Int, PyData.depthAll (ns.map PyData.int) ≤ 1
  | [] => Nat.zero_le _
  | n :: ns => by
    have := depth_ints ns
    simp only [List.map_cons, PyData.depthAll, PyData.depth]
    omega
section
variable {X : Cx}
def rMaxD (K : PySem.W.Frag) : List V → List V → Hp → VK → Prop := fun vs zs H Q => ∃ (a : Addr) (ns : List Int) (d : Int), vs = [V.ref a] ∧ zs = [V.int d] ∧ SqL K H a (ns.map V.int) ∧ Q (.int (topD d ns)) H
theorem cr_maxD (hc : X.calm = true) (hu : X.A.units + 100 < cLine) : CallRK X (.builtin "max") [Str.ofString "default"] (rMaxD X.K) := by
  intro pins s σ H xs zs us ws Q I rx rz h
  obtain ⟨a, ns, d, rfl, rfl, hs, q⟩ := h
  obtain ⟨its, rv, hl, _⟩ := I.list hs
  rw [Vals.ref1 rx]
  obtain ⟨t, rfl⟩ : ∃ t, ws = [Value.int d t] := by
    cases rz with
    | cons r1 r2 =>
      obtain ⟨t, rfl⟩ := r1
      cases r2
      exact ⟨t, rfl⟩
  have ra := ints_readAll s.heap rv.ints
  show wpAny _ _ (call (.builtin "max") [.ref a] [(Str.ofString "default", .int d t)]) _ _ s
  refine PySem.W.max_list_default (I.ok.hd hc) hl.isList ra (alike_ints ns) (by have := depth_ints ns; omega) (fun e h' tk hk => ?_) (fun y ys i v h' tk bs e hv rd hk => ?_)
  · have : ns = [] := by
      cases ns with
      | nil => rfl
      | cons _ _ => cases e
    subst this
    exact ⟨.int d, H, I.kept hk, ⟨_, rfl⟩, q⟩
  · cases ns with
    | nil => cases e
    | cons n ns =>
      cases e
      rw [PySem.W.maxD_ints] at rd
      cases rd with
      | int i t2 => exact ⟨.int _, H, I.kept hk, ⟨_, rfl⟩, q⟩
end
end GM

/-! tables -/
namespace XT
open PySem PySem.Spec PyProof.Rows L2 KA KD KL PH PM PA PB PC RM RN QE QF QG QH K52b
abbrev sTable : Stmt := topS 22
abbrev sTI : Stmt := inClass sTable 0
abbrev sTA : Stmt := inClass sTable 2
abbrev sTW : Stmt := inClass sTable 3
theorem scTI : FnScope ["self", "entries", "low", "high", "amount"] ["self", "entries"] (defScope sTI) := ⟨rfl, rfl, rfl, by decide +kernel, rfl, by decide +kernel, by decide +kernel⟩
theorem scTA : FnScope ["self", "low", "high", "amounts", "amount", "start", "end"] ["self", "low", "high"] (defScope sTA) := ⟨rfl, rfl, rfl, by decide +kernel, rfl, by decide +kernel, by decide +kernel⟩
theorem scTW : FnScope ["self", "ranges", "low", "high"] ["self", "ranges"] (defScope sTW) := ⟨rfl, rfl, rfl, by decide +kernel, rfl, by decide +kernel, by decide +kernel⟩
theorem pairs_get {H : Hp} : ∀ {xs : List V} {rs : List (Int × Int)} {i : Nat} {x : V}, PairsAt H xs rs → xs[i]? = some x → ∃ p r, x = .ref p ∧ rs[i]? = some r ∧ H p = some (.tup [.int r.1, .int r.2])
  | x :: xs, r :: rs, 0, y, ⟨⟨p, h1, h2⟩, _⟩, e => ⟨p, r, by rw [← h1]; exact (Option.some.inj e).symm, rfl, h2⟩
  | x :: xs, r :: rs, i + 1, y, ⟨_, h⟩, e => pairs_get (xs := xs) (rs := rs) (i := i) h e
  | [], [], _, _, _, e => by simp at e
  | [], _ :: _, _, _, h, _ => h.elim
  | _ :: _, [], _, _, h, _ => h.elim
def tri (e : Ent) : HO := .tup [.int e.1, .int e.2.1, .int e.2.2]
/-- a list's items are entries -/
def TripsAt (H : Hp) : List V → List Ent → Prop
  | [], [] => True
  | x :: xs, e :: es => (∃ p, x = .ref p ∧ H p = some (tri e)) ∧ TripsAt H xs es
  | _, _ => False
theorem TripsAt.length {H : Hp} : ∀ {xs : List V} {es : List Ent}, TripsAt H xs es → xs.length = es.length
  | [], [], _ => rfl
  | _ :: _, _ :: _, h => by simp [h.2.length]
  | [], _ :: _, h => h.elim
  | _ :: _, [], h => h.elim
theorem TripsAt.get {H : Hp} : ∀ {xs : List V} {es : List Ent} {i : Nat} {x : V}, TripsAt H xs es → xs[i]? = some x → ∃ p e, x = .ref p ∧ es[i]? = some e ∧ H p = some (tri e)
  | x :: xs, e :: es, 0, y, ⟨⟨p, h1, h2⟩, _⟩, k => ⟨p, e, by rw [← h1]; exact (Option.some.inj k).symm, rfl, h2⟩
  | x :: xs, e :: es, i + 1, y, ⟨_, h⟩, k => TripsAt.get (xs := xs) (es := es) (i := i) h k
  | [], [], _, _, _, k => by simp at k
  | [], _ :: _, _, _, h, _ => h.elim
  | _ :: _, [], _, _, h, _ => h.elim
theorem TripsAt.map {H H' : Hp} (k : ∀ p e, H p = some (tri e) → H' p = some (tri e)) : ∀ {xs : List V} {es : List Ent}, TripsAt H xs es → TripsAt H' xs es
  | [], [], _ => trivial
  | _ :: _, _ :: _, ⟨⟨p, h1, h2⟩, h⟩ => ⟨⟨p, h1, k p _ h2⟩, TripsAt.map k h⟩
  | [], _ :: _, h => h.elim
  | _ :: _, [], h => h.elim
theorem TripsAt.same {H H' : Hp} {xs : List V} {es : List Ent} (h : TripsAt H xs es) (s : Same H H') : TripsAt H' xs es := h.map fun p e q => s _ _ q
theorem TripsAt.but {H H' : Hp} {D : Addr} {acc : List V} {xs : List V} {es : List Ent} (h : TripsAt H xs es) (k : ∀ b o, b ≠ D → H b = some o → H' b = some o) (hD : H D = some (.lst acc)) : TripsAt H' xs es := h.map fun p e q => k p _ (fun z => by rw [z, hD] at q; cases q) q
theorem TripsAt.ch {H H' : Hp} {f : Addr} {xs : List V} {es : List Ent} (h : TripsAt H xs es) (c : Ch f H H') (fe : ∃ acc, H f = some (.lst acc)) : TripsAt H' xs es := h.map fun p e q => by
  obtain ⟨acc, ha⟩ := fe
  exact c _ _ (fun z => by rw [z, ha] at q; cases q) q
theorem TripsAt.app {H : Hp} : ∀ {xs ys : List V} {es fs : List Ent}, TripsAt H xs es → TripsAt H ys fs → TripsAt H (xs ++ ys) (es ++ fs)
  | [], _, [], _, _, g => g
  | _ :: _, _, _ :: _, _, ⟨h1, h⟩, g => ⟨h1, TripsAt.app h g⟩
  | [], _, _ :: _, _, h, _ => h.elim
  | _ :: _, _, [], _, h, _ => h.elim
theorem trips_one {H : Hp} {p : Addr} {e : Ent} (h : H p = some (tri e)) : TripsAt H [.ref p] [e] := ⟨⟨p, rfl, h⟩, trivial⟩
theorem TripsAt.rev {H : Hp} : ∀ {xs : List V} {es : List Ent}, TripsAt H xs es → TripsAt H xs.reverse es.reverse
  | [], [], _ => trivial
  | x :: xs, e :: es, ⟨⟨p, h1, h2⟩, h⟩ => by
    rw [List.reverse_cons, List.reverse_cons, h1]
    exact (TripsAt.rev h).app (trips_one h2)
  | [], _ :: _, h => h.elim
  | _ :: _, [], h => h.elim
/-- a table stands at x -/
def TabAt (H : Hp) (C x : Addr) (T : List Ent) : Prop := ∃ (dx t : Addr) (ys : List V), H x = some (.ins C dx [("entries", .ref t)]) ∧ H t = some (.tup ys) ∧ TripsAt H ys T
theorem TabAt.same {H H' : Hp} {C x : Addr} {T : List Ent} (h : TabAt H C x T) (s : Same H H') : TabAt H' C x T := by
  obtain ⟨dx, t, ys, h1, h2, h3⟩ := h
  exact ⟨dx, t, ys, s _ _ h1, s _ _ h2, h3.same s⟩
theorem TabAt.ch {H H' : Hp} {C x f : Addr} {T : List Ent} (h : TabAt H C x T) (c : Ch f H H') (fe : ∃ acc, H f = some (.lst acc)) : TabAt H' C x T := by
  obtain ⟨dx, t, ys, h1, h2, h3⟩ := h
  obtain ⟨acc, ha⟩ := id fe
  exact ⟨dx, t, ys, c _ _ (fun z => by rw [z, ha] at h1; cases h1) h1, c _ _ (fun z => by rw [z, ha] at h2; cases h2) h2, h3.ch c fe⟩
structure Tbl (K : PySem.W.Frag) (C : Addr) : Prop where
  cl : Cls K C
  nE : NoAttr K C "entries"
theorem hu_of {k : Nat} {A : Around} (r : Room k A) : A.units + 100 < cLine := by have := r.un; omega
section
variable {P : Program} {w : World} {K : PySem.W.Frag} {mg : Str → Option Value} {base : Heap} {C : Addr}
def spTI (K : PySem.W.Frag) (C : Addr) : Sp := fun vs H Q _ => ∃ (x c dx : Addr) (xs : List V) (T : List Ent), vs = [.ref x, .ref c] ∧ H x = some (.ins C dx []) ∧ H c = some (.lst xs) ∧ TripsAt H xs T ∧ T.length ≤ 500 ∧
  ∀ H', (∀ b o, b ≠ x → H b = some o → H' b = some o) → TabAt H' C x T → Q .non H'
theorem ok_TI {f : Addr} {fd : FuncData} {k : Nat} (F : Fun K "__init__" "Table.__init__" sTI f fd) (T : Tbl K C) (mt : mg "tuple" = none) : FnOk P w K mg base CX0 (k + 1) f fd ["self", "entries"] (spTI K C) := by
  refine F.ok scTI (fun vs H Q E h => ?_) (fun cdv A outer s H vs Q E hr h => ?_)
  · obtain ⟨x, c, dx, xs, T, rfl, _⟩ := h
    rfl
  · obtain ⟨x, c, dx, xs, es, rfl, hx, hc, tr, le, hq⟩ := h
    refine ⟨_, pss_one (ps_fld (pv 0) (pe_callTy call_tuple_of (by rfl) mt (by decide +kernel) (pa_cons (pe_lc (own := [("low", 2), ("high", 3), ("amount", 4)]) (g := gTup K 3 (gCons (gName 2) (gCons (gName 3) (gCons (gName 4) gNil)))) (tt := tYes) (te := tTup (tCons (tVar 2) (tCons (tVar 3) (tCons (tVar 4) tNil)))) rfl scTI.nd (pi_list (pv 1)) (blkOk_by (own := [("low", 2), ("high", 3), ("amount", 4)]) (N := ["self", "entries", "low", "high", "amount"]) (sc := defScope sTI) (by decide +kernel))
        (fun _ _ _ _ _ => pg_tup rfl (pgs_cons (pg_name (i := 2) scTI.nd rfl (Or.inl rfl) (Or.inr rfl)) (pgs_cons (pg_name (i := 3) scTI.nd rfl (Or.inl rfl) (Or.inr rfl)) (pgs_cons (pg_name (i := 4) scTI.nd rfl (Or.inl rfl) (Or.inr rfl)) pgs_nil)))) (fun _ _ _ _ _ => pts_nil)
        (fun _ _ _ _ _ => pe_tup (pa_cons (pv 2) (pa_cons (pv 3) (pa_cons (pv 4) pa_nil))))) pa_nil)) rfl), ?_⟩
    have ll := tr.length
    refine ⟨.ref c, rfl, c, rfl, ⟨_, SqL.of hc⟩, fun D nD => ?_⟩
    refine lc_list (K := K) (a := c) (xs := xs) (fun i Hz => Same H Hz ∧ ∃ acc : List V, Hz D = some (.lst acc) ∧ TripsAt Hz acc (es.take i)) ⟨same_new nD, [], upd_same, trivial⟩ (fun i Hz _ z => SqL.of (z.1 _ _ hc)) ?_ ?_
    · rintro i y Hz hy ⟨sz, acc, eD, ta⟩
      obtain ⟨p, e, rfl, ee, hp⟩ := tr.get hy
      have hi2 := (List.getElem?_eq_some_iff.mp hy).1
      refine ⟨p, _, rfl, SqT.of (sz _ _ hp), rfl, .int e.1, [.int e.2.1, .int e.2.2], rfl, .int e.2.1, [.int e.2.2], rfl, .int e.2.2, [], rfl, rfl, rfl, iteT (B := True) ?_⟩
      refine ⟨.int e.1, rfl, .int e.2.1, rfl, .int e.2.2, rfl, by show 3 ≤ sizeLine; decide, fun q nq => ?_⟩
      have sq := same_new (o := tri e) nq
      have la := ta.length
      rw [List.length_take] at la
      have eD2 := sq _ _ eD
      refine ⟨acc, eD2, Nat.lt_of_le_of_lt (show acc.length ≤ 3000 by omega) (by decide), same_again nD (sz.trans sq), acc ++ [.ref q], upd_same, ?_⟩
      rw [List.take_add_one, ee]
      exact ((ta.same sq).app (trips_one (e := e) upd_same)).but (fun b o n e => by rw [upd_ne n]; exact e) eD2
    rintro H1 ⟨s1, acc, eD, ta⟩
    rw [ll, List.take_length] at ta
    refine ⟨D, acc, rfl, .inl ⟨SqL.of eD, fun t nt => ?_⟩⟩
    have s2 := s1.trans (same_new (o := .tup acc) nt)
    have et := upd_same (H := H1) (a := t) (o := .tup acc)
    have ta2 := ta.same (same_new (o := .tup acc) nt)
    generalize upd H1 t (.tup acc) = H2 at s2 et ta2 ⊢
    have hx2 := s2 _ _ hx
    refine ⟨.ref x, rfl, x, C, dx, [], rfl, hx2, T.cl, T.nE, by decide, ?_⟩
    have keep : ∀ b o, b ≠ x → H2 b = some o → (upd H2 x (.ins C dx (putF "entries" (.ref t) []))) b = some o := fun b o nb e => by rw [upd_ne nb]; exact e
    refine hq _ (fun b o nb e => keep b o nb (s2 _ _ e)) ⟨dx, t, acc, ?_, ?_, ?_⟩
    · rw [upd_same]; rfl
    · exact keep _ _ (fun z => by rw [z, hx2] at et; cases et) et
    · exact ta2.map fun p e q => keep p _ (fun z => by rw [z, hx2] at q; cases q) q
def spTA (C : Addr) : Sp := fun vs H Q _ => ∃ (x : Addr) (T : List Ent) (lo hi : Int), vs = [.ref x, .int lo, .int hi] ∧ TabAt H C x T ∧ T.length ≤ 500 ∧ ∀ H', Same H H' → Q (.int (amt T lo hi)) H'
theorem amts_take {T : List Ent} {lo hi : Int} {i : Nat} {e : Ent} (h : T[i]? = some e) : amts (T.take (i + 1)) lo hi = amts (T.take i) lo hi ++ (if has lo hi e = true then [e.2.2] else []) := by
  unfold amts
  rw [List.take_add_one, h]
  show List.map _ (List.filter _ (T.take i ++ [e])) = _
  rw [List.filter_append, List.map_append]
  congr 1
  cases k : has lo hi e <;> simp [List.filter, k]
theorem amts_len (T : List Ent) (lo hi : Int) : (amts T lo hi).length ≤ T.length := by
  unfold amts
  rw [List.length_map]
  exact List.length_filter_le _ _
theorem ok_TA {f : Addr} {fd : FuncData} {k : Nat} (F : Fun K "amount" "Table.amount" sTA f fd) (T : Tbl K C) (mm : mg "max" = none) :
    FnOk P w K mg base CX0 (k + 1) f fd ["self", "low", "high"] (spTA C) := by
  refine F.ok scTA (fun vs H Q E h => ?_) (fun cdv A outer s H vs Q E hr h => ?_)
  · obtain ⟨x, T, lo, hi, rfl, _⟩ := h
    rfl
  · obtain ⟨x, es, lo, hi, rfl, ⟨dx, t, ys, hx, ht, tr⟩, le, hq⟩ := h
    refine ⟨_, pss_cons (ps_setLc (i := 3) (own := [("amount", 4), ("start", 5), ("end", 6)]) (g := gTup K 3 (gCons (gName 5) (gCons (gName 6) (gCons (gName 4) gNil)))) (te := tVar 4) rfl scTA.nd rfl rfl (sw_true rfl rfl rfl (by decide +kernel)) (pi_tup (pe_fld (pv 0) rfl))
        (blkOk_by (own := [("amount", 4), ("start", 5), ("end", 6)]) (N := ["self", "low", "high", "amounts", "amount", "start", "end"]) (sc := defScope sTA) (by decide +kernel))
        (fun _ _ _ _ _ => pg_tup rfl (pgs_cons (pg_name (i := 5) scTA.nd rfl (Or.inl rfl) (Or.inr rfl)) (pgs_cons (pg_name (i := 6) scTA.nd rfl (Or.inl rfl) (Or.inr rfl)) (pgs_cons (pg_name (i := 4) scTA.nd rfl (Or.inl rfl) (Or.inr rfl)) pgs_nil))))
        (fun _ _ _ _ _ => pts_one (PW.pt (pw_and (pt_cmpR op_le (pv 1) (pv 5) (nomark _)) (pw_and1 (pt_cmpR op_le (pv 6) (pv 2) (nomark _))))))
        (fun _ _ _ _ _ => pv 4))
      (pss_one (ps_ret (pe_callBK (GM.cr_maxD rfl (hu_of hr)) (by rfl) mm (by decide +kernel) (pa_cons (pv 3) pa_nil) (pk_cons pe_int pk_nil)))), ?_⟩
    have ll := tr.length
    refine ⟨.ref x, rfl, x, C, dx, _, .ref t, rfl, hx, T.cl, T.nE, rfl, t, rfl, ⟨_, SqT.of ht⟩, fun D nD => ?_⟩
    refine lc_tup (K := K) (a := t) (xs := ys) (fun i Hz => Same H Hz ∧ Hz D = some (.lst ((amts (es.take i) lo hi).map V.int))) ⟨same_new nD, upd_same⟩ (fun i Hz _ z => SqT.of (z.1 _ _ ht)) ?_ ?_
    · rintro i y Hz hy ⟨sz, eD⟩
      obtain ⟨p, e, rfl, ee, hp⟩ := tr.get hy
      have l2 : 2 ≤ sizeLine := by decide
      refine ⟨p, _, rfl, SqT.of (sz _ _ hp), rfl, .int e.1, [.int e.2.1, .int e.2.2], rfl, .int e.2.1, [.int e.2.2], rfl, .int e.2.2, [], rfl, rfl, rfl, ?_⟩
      have st := amts_take (lo := lo) (hi := hi) ee
      have la := amts_len (es.take i) lo hi
      rw [List.length_take] at la
      have eh : has lo hi e = (decide (lo ≤ e.1) && decide (e.2.1 ≤ hi)) := rfl
      refine ⟨.int lo, rfl, .int e.1, rfl, lo, e.1, rfl, rfl, _, rfl, ?_⟩
      have yes : has lo hi e = true → Hz D = some (.lst ((amts (es.take i) lo hi).map V.int)) → True := fun _ _ => trivial
      by_cases c1 : lo ≤ e.1
      · rw [decide_eq_true c1, Bool.true_and] at eh
        rw [decide_eq_true c1]
        refine iteT ⟨.int e.2.1, rfl, .int hi, rfl, e.2.1, hi, rfl, rfl, _, rfl, ?_⟩
        rw [← eh]
        cases k : has lo hi e with
        | true =>
          rw [k, if_pos rfl] at st
          refine iteT ⟨.int e.2.2, rfl, _, eD, ?_, same_again nD sz, ?_⟩
          · rw [List.length_map]; exact Nat.lt_of_le_of_lt (show _ ≤ 3000 by omega) (by decide)
          · rw [upd_same, st, List.map_append]; rfl
        | false =>
          rw [k, if_neg (by simp), List.append_nil] at st
          exact iteF ⟨sz, by rw [st]; exact eD⟩
      · rw [decide_eq_false c1, Bool.false_and] at eh
        rw [decide_eq_false c1]
        rw [eh, if_neg (by simp), List.append_nil] at st
        refine iteF ?_
        refine iteF ?_
        exact ⟨sz, by rw [st]; exact eD⟩
    rintro H1 ⟨s1, eD⟩
    rw [ll, List.take_length] at eD
    refine ⟨.ref D, rfl, D, amts es lo hi, 0, rfl, rfl, SqL.of eD, ?_⟩
    have et : GM.topD 0 (amts es lo hi) = amt es lo hi := by unfold amt; cases amts es lo hi <;> rfl
    rw [et]
    exact hq _ s1
def spTWl (K : PySem.W.Frag) (C : Addr) : Sp := fun vs H Q _ => ∃ (x a : Addr) (T : List Ent) (xs : List V) (rs : List (Int × Int)), vs = [.ref x, .ref a] ∧ TabAt H C x T ∧ T.length ≤ 500 ∧ SqL K H a xs ∧ PairsAt H xs rs ∧ rs.length ≤ 2000 ∧ ∀ H', Same H H' → Q (.int (wear T rs)) H'
def spTWt (K : PySem.W.Frag) (C : Addr) : Sp := fun vs H Q _ => ∃ (x a : Addr) (T : List Ent) (xs : List V) (rs : List (Int × Int)), vs = [.ref x, .ref a] ∧ TabAt H C x T ∧ T.length ≤ 500 ∧ SqT K H a xs ∧ PairsAt H xs rs ∧ rs.length ≤ 2000 ∧ ∀ H', Same H H' → Q (.int (wear T rs)) H'
theorem ok_TWl {f fA : Addr} {fd dA : FuncData} {k : Nat} (F : Fun K "wear" "Table.wear" sTW f fd) (T : Tbl K C) (mA : Meth K C "amount" fA) (GA : FnOk P w K mg base CX0 (k + 2) fA dA ["self", "low", "high"] (spTA C)) (bA : Binds K dA ["self", "low", "high"] []) (ms : mg "sum" = none) :
    FnOk P w K mg base CX0 (k + 3) f fd ["self", "ranges"] (spTWl K C) := by
  refine F.ok scTW (fun vs H Q E h => ?_) (fun cdv A outer s H vs Q E hr h => ?_)
  · obtain ⟨x, a, T, xs, rs, rfl, _⟩ := h
    rfl
  · obtain ⟨x, a, es, xs, rs, rfl, tab, le, hS, pa, lr, hq⟩ := h
    refine ⟨_, pss_one (ps_ret (pe_callB (cr_sum rfl) (by rfl) ms (by decide +kernel) (pa_cons (pe_lc (own := [("low", 2), ("high", 3)]) (g := gTup K 2 (gCons (gName 2) (gCons (gName 3) gNil))) (tt := tYes) (te := tMeth C "amount" (spTA C) [] E0 (tVar 0) (tCons (tVar 2) (tCons (tVar 3) tNil))) rfl scTW.nd (pi_list (pv 1)) (blkOk_by (own := [("low", 2), ("high", 3)]) (N := ["self", "ranges", "low", "high"]) (sc := defScope sTW) (by decide +kernel))
        (fun _ _ _ _ _ => pg_tup rfl (pgs_cons (pg_name (i := 2) scTW.nd rfl (Or.inl rfl) (Or.inr rfl)) (pgs_cons (pg_name (i := 3) scTW.nd rfl (Or.inl rfl) (Or.inr rfl)) pgs_nil))) (fun _ _ _ _ _ => pts_nil)
        (fun _ _ _ _ _ => pe_meth (pv 0) T.cl mA GA hr bA .nil pass0 (pa_cons (pv 2) (pa_cons (pv 3) pa_nil)))) pa_nil))), ?_⟩
    have ll := pa.length
    refine ⟨.ref a, rfl, a, rfl, ⟨_, hS⟩, fun D nD => ?_⟩
    refine lc_list (K := K) (a := a) (xs := xs) (fun i Hz => Same H Hz ∧ Hz D = some (.lst (((rs.take i).map fun r => amt es r.1 r.2).map V.int))) ⟨same_new nD, upd_same⟩ (fun i Hz _ z => z.1.seq hS) ?_ ?_
    · rintro i y Hz hy ⟨sz, eD⟩
      obtain ⟨p, r, rfl, er, hp⟩ := pairs_get pa hy
      obtain ⟨dx, t, ys, hx, _⟩ := id tab
      refine ⟨p, _, rfl, SqT.of (sz _ _ hp), rfl, .int r.1, [.int r.2], rfl, .int r.2, [], rfl, rfl, rfl, iteT (B := True) ?_⟩
      refine ⟨.ref x, rfl, x, dx, _, rfl, sz _ _ hx, rfl, .int r.1, rfl, .int r.2, rfl, x, es, r.1, r.2, rfl, tab.same sz, le, fun H2 s2 => ?_⟩
      refine ⟨_, s2 _ _ eD, ?_, same_again nD (sz.trans s2), ?_⟩
      · rw [List.length_map, List.length_map, List.length_take]; exact Nat.lt_of_le_of_lt (show _ ≤ 3000 by omega) (by decide)
      · rw [upd_same, List.take_add_one, er, List.map_append, List.map_append]; rfl
    rintro H1 ⟨s1, eD⟩
    rw [ll, List.take_length] at eD
    exact ⟨D, _, rfl, SqL.of eD, hq _ s1⟩
theorem ok_TWt {f fA : Addr} {fd dA : FuncData} {k : Nat} (F : Fun K "wear" "Table.wear" sTW f fd) (T : Tbl K C) (mA : Meth K C "amount" fA) (GA : FnOk P w K mg base CX0 (k + 2) fA dA ["self", "low", "high"] (spTA C)) (bA : Binds K dA ["self", "low", "high"] []) (ms : mg "sum" = none) :
    FnOk P w K mg base CX0 (k + 3) f fd ["self", "ranges"] (spTWt K C) := by
  refine F.ok scTW (fun vs H Q E h => ?_) (fun cdv A outer s H vs Q E hr h => ?_)
  · obtain ⟨x, a, T, xs, rs, rfl, _⟩ := h
    rfl
  · obtain ⟨x, a, es, xs, rs, rfl, tab, le, hS, pa, lr, hq⟩ := h
    refine ⟨_, pss_one (ps_ret (pe_callB (cr_sum rfl) (by rfl) ms (by decide +kernel) (pa_cons (pe_lc (own := [("low", 2), ("high", 3)]) (g := gTup K 2 (gCons (gName 2) (gCons (gName 3) gNil))) (tt := tYes) (te := tMeth C "amount" (spTA C) [] E0 (tVar 0) (tCons (tVar 2) (tCons (tVar 3) tNil))) rfl scTW.nd (pi_tup (pv 1)) (blkOk_by (own := [("low", 2), ("high", 3)]) (N := ["self", "ranges", "low", "high"]) (sc := defScope sTW) (by decide +kernel))
        (fun _ _ _ _ _ => pg_tup rfl (pgs_cons (pg_name (i := 2) scTW.nd rfl (Or.inl rfl) (Or.inr rfl)) (pgs_cons (pg_name (i := 3) scTW.nd rfl (Or.inl rfl) (Or.inr rfl)) pgs_nil))) (fun _ _ _ _ _ => pts_nil)
        (fun _ _ _ _ _ => pe_meth (pv 0) T.cl mA GA hr bA .nil pass0 (pa_cons (pv 2) (pa_cons (pv 3) pa_nil)))) pa_nil))), ?_⟩
    have ll := pa.length
    refine ⟨.ref a, rfl, a, rfl, ⟨_, hS⟩, fun D nD => ?_⟩
    refine lc_tup (K := K) (a := a) (xs := xs) (fun i Hz => Same H Hz ∧ Hz D = some (.lst (((rs.take i).map fun r => amt es r.1 r.2).map V.int))) ⟨same_new nD, upd_same⟩ (fun i Hz _ z => SqT_same z.1 hS) ?_ ?_
    · rintro i y Hz hy ⟨sz, eD⟩
      obtain ⟨p, r, rfl, er, hp⟩ := pairs_get pa hy
      obtain ⟨dx, t, ys, hx, _⟩ := id tab
      refine ⟨p, _, rfl, SqT.of (sz _ _ hp), rfl, .int r.1, [.int r.2], rfl, .int r.2, [], rfl, rfl, rfl, iteT (B := True) ?_⟩
      refine ⟨.ref x, rfl, x, dx, _, rfl, sz _ _ hx, rfl, .int r.1, rfl, .int r.2, rfl, x, es, r.1, r.2, rfl, tab.same sz, le, fun H2 s2 => ?_⟩
      refine ⟨_, s2 _ _ eD, ?_, same_again nD (sz.trans s2), ?_⟩
      · rw [List.length_map, List.length_map, List.length_take]; exact Nat.lt_of_le_of_lt (show _ ≤ 3000 by omega) (by decide)
      · rw [upd_same, List.take_add_one, er, List.map_append, List.map_append]; rfl
    rintro H1 ⟨s1, eD⟩
    rw [ll, List.take_length] at eD
    exact ⟨D, _, rfl, SqL.of eD, hq _ s1⟩
end
end XT

/-! the once-repeated readings, from a place on -/
namespace KP
open PM
theorem drop_at {ns : List Int} {i : Nat} {r : Int} (h : ns[i]? = some r) : ns.drop i = r :: ns.drop (i + 1) := by
  obtain ⟨h1, h2⟩ := List.getElem?_eq_some_iff.mp h
  rw [List.drop_eq_getElem_cons h1, h2]
/-- what is left of the once-repeated readings from the i-th on -/
def ddr (ns : List Int) : Nat → List Int
  | 0 => dd ns
  | i + 1 => match ns[i]? with
    | some p => ddf p (ns.drop (i + 1))
    | none => []
theorem ddr_first {ns : List Int} {r : Int} (h : ns[0]? = some r) : ddr ns 0 = r :: ddr ns 1 := by
  cases ns with
  | nil => simp at h
  | cons a l =>
    have e : a = r := Option.some.inj h
    subst e
    rfl
theorem ddr_next {ns : List Int} {i : Nat} {p r : Int} (hp : ns[i]? = some p) (h : ns[i + 1]? = some r) : ddr ns (i + 1) = if r = p then ddr ns (i + 2) else r :: ddr ns (i + 2) := by
  show (match ns[i]? with | some p => ddf p (ns.drop (i + 1)) | none => []) = if r = p then (match ns[i + 1]? with | some p => ddf p (ns.drop (i + 2)) | none => []) else r :: (match ns[i + 1]? with | some p => ddf p (ns.drop (i + 2)) | none => [])
  rw [hp, h, drop_at h]
  dsimp only
  simp only [ddf]
  by_cases e : r = p
  · rw [if_pos e, if_pos e, e]
  · rw [if_neg e, if_neg e]
theorem ddr_end (ns : List Int) : ddr ns ns.length = [] := by
  cases h : ns.length with
  | zero =>
    have : ns = [] := List.length_eq_zero_iff.mp h
    rw [this]
    rfl
  | succ n =>
    show (match ns[n]? with | some p => ddf p (ns.drop (n + 1)) | none => []) = []
    have hn : n < ns.length := by omega
    rw [List.getElem?_eq_getElem hn, List.drop_eq_nil_of_le (by omega)]
    rfl
theorem dd_len : ∀ ns : List Int, (dd ns).length ≤ ns.length
  | [] => Nat.le_refl _
  | a :: l => by
    have h : ∀ (l : List Int) (p : Int), (ddf p l).length ≤ l.length := by
      intro l
      induction l with
      | nil => intro p; exact Nat.le_refl _
      | cons x l ih =>
        intro p
        simp only [ddf, List.length_cons]
        split
        · have := ih p; omega
        · have := ih x; rw [List.length_cons]; omega
    have := h l a
    simp only [dd, List.length_cons]
    omega
end KP

/-! the law's own points -/
namespace WF2
open PySem PySem.Spec PyProof.Rows L2 KA PH PM PA PB PC
open KP hiding drop_at
abbrev sLP : Stmt := topS 28
theorem scLP : FnScope ["load", "k", "once", "found"] ["load"] (defScope sLP) := ⟨rfl, rfl, rfl, by decide +kernel, rfl, by decide +kernel, by decide +kernel⟩
def Finv (o : List Int) (j : Nat) (fnd : List Int) : Prop := (o.length ≤ 1 ∧ fnd = o) ∨ (∃ p c, o[j]? = some p ∧ o[j + 1]? = some c ∧ lp o = fnd ++ lq p c (o.drop (j + 2)))
theorem finv_start (o : List Int) : Finv o 0 (o.take 1) := by
  match o with
  | [] => exact .inl ⟨Nat.zero_le _, rfl⟩
  | [x] => exact .inl ⟨Nat.le_refl _, rfl⟩
  | x :: y :: l => exact .inr ⟨x, y, rfl, rfl, rfl⟩
theorem drop_cons {o : List Int} {i : Nat} {r : Int} (h : o[i]? = some r) : o.drop i = r :: o.drop (i + 1) := drop_at h
section
variable {P : Program} {w : World} {K : PySem.W.Frag} {mg : Str → Option Value} {base : Heap}
def spLP (K : PySem.W.Frag) : Sp := fun vs H Q _ => ∃ (a : Addr) (ns : List Int), vs = [.ref a] ∧ SqL K H a (ns.map V.int) ∧ ns.length ≤ 2500 ∧ ∀ H' p, Same H H' → H p = none → H' p = some (.lst ((tp ns).map V.int)) → Q (.ref p) H'
theorem ok_LP {f : Addr} {fd : FuncData} {k : Nat} (F : Fun K "_law_points" "_law_points" sLP f fd) (ml : mg "len" = none) (mr : mg "range" = none) (mi : mg "int" = none) : FnOk P w K mg base CX0 (k + 1) f fd ["load"] (spLP K) := by
  refine F.ok scLP (fun vs H Q E h => ?_) (fun cdv A outer s H vs Q E hr h => ?_)
  · obtain ⟨a, ns, rfl, _⟩ := h
    rfl
  · obtain ⟨a, ns, rfl, hS, hlen, hq⟩ := h
    refine ⟨_, pss_cons (ps_setLc (i := 2) (own := [("k", 1)]) (g := gName 1) (tt := tOr (tTest (tOp rEq (tVar 1) (tC (V.int 0)))) (tTest (tOp rNe (tOp (rIxL K) (tVar 0) (tVar 1)) (tOp (rIxL K) (tVar 0) (tOp (rI0 fun i j => .int (i - j)) (tVar 1) (tC (V.int 1))))))) (te := tOp (rIxL K) (tVar 0) (tVar 1)) rfl scLP.nd rfl rfl (sw_true rfl rfl rfl (by decide +kernel)) (pi_range1 rfl mr (pa_cons (pe_callB call_len_seq (by rfl) ml PySem.boot_len (pa_cons (pv 0) pa_nil)) pa_nil))
        (blkOk_by (own := [("k", 1)]) (N := ["load", "k", "once", "found"]) (sc := defScope sLP) (by decide +kernel))
        (fun _ _ _ _ _ => pg_name (i := 1) scLP.nd rfl (Or.inl rfl) (Or.inr rfl))
        (fun _ _ _ _ _ => pts_one (PW.pt (pw_or (pt_cmpR op_eq (pv 1) pe_int (nomark _)) (pw_or1 (pt_cmpR op_ne (pe_ix ix_list (pv 0) (pv 1) (fun _ _ => rfl)) (pe_ix ix_list (pv 0) (pe_op op_sub (pv 1) pe_int) (fun _ _ => rfl)) (nomark _))))))
        (fun _ _ _ _ _ => pe_ix ix_list (pv 0) (pv 1) (fun _ _ => rfl)))
      (pss_cons (ps_set (i := 3) scLP.nd rfl (.inl rfl) (pe_slice sl_list (pv 2) po_none (po_some pe_int)))
      (pss_cons (ps_for PassesOwn.never rfl (pi_range2 (by rfl) mr (pa_cons pe_int (pa_cons (pe_op op_sub (pe_callB call_len_seq (by rfl) ml PySem.boot_len (pa_cons (pv 2) pa_nil)) pe_int) pa_nil))) (pg_name (i := 1) scLP.nd rfl (.inl rfl))
        (pss_one (ps_if (pt_cmpR op_eq (pe_cmpR op_gt (pe_ix ix_list (pv 2) (pv 1) (fun _ _ => rfl)) (pe_ix ix_list (pv 2) (pe_op op_sub (pv 1) pe_int) (fun _ _ => rfl)) (nomark _)) (pe_cmpR op_gt (pe_ix ix_list (pv 2) (pv 1) (fun _ _ => rfl)) (pe_ix ix_list (pv 2) (pe_op op_add (pv 1) pe_int) (fun _ _ => rfl)) (nomark _)) (nomark _))
          (pss_one (ps_expr (pe_bm PySem.F.plainAttrs_list PySem.F.slot_list_append PySem.F.type_list_append mt_append (pv 3) (pa_cons (pe_ix ix_list (pv 2) (pv 1) (fun _ _ => rfl)) pa_nil)))) pss_nil)))
      (pss_one (ps_ret (pe_op op_cat (pv 3) (pe_slice sl_list (pv 2) (po_some (pe_op op_sub (pe_callB call_len_seq (by rfl) ml PySem.boot_len (pa_cons (pv 2) pa_nil)) (pe_callTy call_int1 (by rfl) mi (by decide +kernel) (pa_cons (pe_cmpR op_gt (pe_callB call_len_seq (by rfl) ml PySem.boot_len (pa_cons (pv 2) pa_nil)) pe_int (nomark _)) pa_nil)))) po_none)))))), ?_⟩
    have hml : (ns.map V.int).length = ns.length := List.length_map _
    refine ⟨.ref a, rfl, a, ns.map V.int, rfl, .inl hS, ((ns.map V.int).length : Int), rfl, by rw [hml]; omega, by rw [hml]; omega, fun D nD => ?_⟩
    have sD : ∀ o, Same H (upd H D o) := fun o => same_new nD
    refine lc_range (lo := 0) (n := (((ns.map V.int).length : Int)).toNat) (fun i H' => ∃ acc : List Int, H' = upd H D (.lst (acc.map V.int)) ∧ acc.length ≤ i ∧ dd ns = acc ++ ddr ns i) ?_ ?_ ?_
    · exact ⟨[], rfl, Nat.le_refl _, rfl⟩
    · rintro i H' hi ⟨acc, rfl, hal, hac⟩
      have hin : i < ns.length := by omega
      have ei : ns[i]? = some ns[i] := List.getElem?_eq_getElem hin
      have ax : atI (ns.map V.int) (0 + (i : Int)) = some (.int ns[i]) := at_of (by omega) (at_int ei)
      have elt : acc.length < sizeLine := small3000 (by omega)
      have grow : ∀ x : Int, upd (upd H D (.lst (acc.map V.int))) D (.lst (acc.map V.int ++ [.int x])) = upd H D (.lst ((acc ++ [x]).map V.int)) := fun x => by rw [upd_upd, List.map_append]; rfl
      refine ⟨rfl, .int (0 + (i : Int)), rfl, rfl, _, rfl, ?_⟩
      cases i with
      | zero =>
        refine iteT (iteT ⟨.ref a, rfl, _, rfl, a, _, _, .int ns[0], rfl, rfl, (sD _).seq hS, ax, acc.map V.int, upd_same, by rw [List.length_map]; exact elt, acc ++ [ns[0]], grow _, by rw [List.length_append, List.length_singleton]; omega, ?_⟩)
        rw [hac, ddr_first ei, List.append_assoc]
        rfl
      | succ m =>
        have hne : decide (V.int (0 + ((m + 1 : Nat) : Int)) = V.int 0) = false := decide_eq_false fun z => by have := V.int.inj z; omega
        rw [hne]
        have hm : m < ns.length := by omega
        have em : ns[m]? = some ns[m] := List.getElem?_eq_getElem hm
        have nx := ddr_next em ei
        refine iteF ⟨.ref a, rfl, .int (0 + ((m + 1 : Nat) : Int)), rfl, a, _, _, .int ns[m + 1], rfl, rfl, (sD _).seq hS, ax, .ref a, rfl, .int (0 + ((m + 1 : Nat) : Int)), rfl, _, 1, rfl, rfl, a, _, _, .int ns[m], rfl, rfl, (sD _).seq hS, at_of (by omega) (at_int em), rfl, _, rfl, ?_⟩
        by_cases e : ns[m + 1] = ns[m]
        · rw [decide_eq_true (show V.int ns[m + 1] = V.int ns[m] by rw [e])]
          refine iteF ⟨acc, rfl, by omega, ?_⟩
          rw [if_pos e] at nx
          rw [hac, nx]
        · rw [decide_eq_false (show ¬ V.int ns[m + 1] = V.int ns[m] from fun z => e (V.int.inj z))]
          refine iteT ⟨.ref a, rfl, _, rfl, a, _, _, .int ns[m + 1], rfl, rfl, (sD _).seq hS, ax, acc.map V.int, upd_same, by rw [List.length_map]; exact elt, acc ++ [ns[m + 1]], grow _, by rw [List.length_append, List.length_singleton]; omega, ?_⟩
          rw [if_neg e] at nx
          rw [hac, nx, List.append_assoc]
          rfl
    rintro H' ⟨acc, rfl, hal, hac⟩
    have en : (((ns.map V.int).length : Int)).toNat = ns.length := by rw [hml]; omega
    rw [en, ddr_end, List.append_nil] at hac
    subst hac
    generalize ho : dd ns = o
    have hol : o.length ≤ 2500 := by rw [← ho]; exact Nat.le_trans (dd_len ns) hlen
    have hom : (o.map V.int).length = o.length := List.length_map _
    -- found
    refine ⟨.ref D, rfl, 1, rfl, D, o.map V.int, rfl, SqL.of upd_same, fun c nc => ?_⟩
    have ncD : c ≠ D := fun z => by rw [z, upd_same] at nc; cases nc
    have hc0 : H c = none := (sD _).free nc
    have e1 : cutV (o.map V.int) none (some 1) = (o.take 1).map V.int := by
      rw [show (some (1 : Int)) = some ((1 : Nat) : Int) from rfl, cut_to, List.map_take]
    rw [e1]
    have onD : ∀ u, (upd (upd H D (.lst (o.map V.int))) c u) D = some (.lst (o.map V.int)) := fun u => by rw [upd_ne ncD.symm, upd_same]
    refine ⟨.ref D, rfl, D, o.map V.int, rfl, .inl (SqL.of (onD _)), _, 1, rfl, rfl, 1, _, rfl, ⟨by decide, by decide, by rw [hom]; omega, by rw [hom]; omega⟩, for_range (lo := 1) (n := ((((o.map V.int).length : Int) - 1) - 1).toNat)
      (fun j σ H' => ∃ (fnd : List Int) (r1 : Option V), σ = [some (.ref a), r1, some (.ref D), some (.ref c)] ∧ H' = upd (upd H D (.lst (o.map V.int))) c (.lst (fnd.map V.int)) ∧ Finv o j fnd ∧ fnd.length ≤ j + 1) ?_ ?_ ?_⟩
    · exact ⟨o.take 1, _, rfl, rfl, finv_start o, by rw [List.length_take]; omega⟩
    · rintro j σ H' hj ⟨fnd, r1, rfl, rfl, inv, hfl⟩
      rw [hom] at hj
      rcases inv with ⟨h1, _⟩ | ⟨p, cc, hp, hcc, hlp⟩
      · omega
      · have hj2 : j + 2 < o.length := by omega
        have hd : o[j + 2]? = some o[j + 2] := List.getElem?_eq_getElem hj2
        have dc := drop_cons hd
        refine ⟨.ref D, rfl, .int (1 + (j : Int)), rfl, D, _, _, .int cc, rfl, rfl, SqL.of (onD _), at_of (j := j + 1) (by omega) (at_int hcc), .ref D, rfl, .int (1 + (j : Int)), rfl, _, 1, rfl, rfl, D, _, _, .int p, rfl, rfl, SqL.of (onD _), at_of (j := j) (by omega) (at_int hp), cc, p, rfl, rfl, ?_⟩
        refine ⟨.ref D, rfl, .int (1 + (j : Int)), rfl, D, _, _, .int cc, rfl, rfl, SqL.of (onD _), at_of (j := j + 1) (by omega) (at_int hcc), .ref D, rfl, .int (1 + (j : Int)), rfl, _, 1, rfl, rfl, D, _, _, .int o[j + 2], rfl, rfl, SqL.of (onD _), at_of (j := j + 2) (by omega) (at_int hd), cc, o[j + 2], rfl, rfl, rfl, _, rfl, ?_⟩
        rw [dc] at hlp
        simp only [lq] at hlp
        by_cases e : decide (cc > p) = decide (cc > o[j + 2])
        · rw [decide_eq_true (show V.bl (decide (cc > p)) = V.bl (decide (cc > o[j + 2])) by rw [e])]
          rw [if_pos e] at hlp
          refine iteT ⟨.ref c, rfl, .inl ⟨rfl, _, SqL.of upd_same⟩, .ref D, rfl, .int (1 + (j : Int)), rfl, D, _, _, .int cc, rfl, rfl, SqL.of (onD _), at_of (j := j + 1) (by omega) (at_int hcc), c, _, _, rfl, rfl, upd_same, by rw [List.length_map]; exact small3000 (by omega),
            fnd ++ [cc], _, rfl, by rw [upd_upd, List.map_append]; rfl, .inr ⟨cc, o[j + 2], hcc, hd, by rw [hlp, List.append_assoc]; rfl⟩, by rw [List.length_append, List.length_singleton]; omega⟩
        · rw [decide_eq_false (show ¬ V.bl (decide (cc > p)) = V.bl (decide (cc > o[j + 2])) from fun z => e (V.bl.inj z))]
          rw [if_neg e] at hlp
          exact iteF ⟨fnd, _, rfl, rfl, .inr ⟨cc, o[j + 2], hcc, hd, hlp⟩, by omega⟩
    · rintro σ H' ⟨fnd, r1, rfl, rfl, inv, hfl⟩
      refine ⟨.ref c, rfl, .ref D, rfl, .ref D, rfl, D, o.map V.int, rfl, .inl (SqL.of (onD _)), .ref D, rfl, D, o.map V.int, rfl, .inl (SqL.of (onD _)), _, 1, rfl, rfl, .inr ⟨_, rfl, _, _, rfl, rfl, _, rfl, D, o.map V.int, rfl, SqL.of (onD _), fun e ne => ?_⟩⟩
      have nec : c ≠ e := fun z => by rw [← z, upd_same] at ne; cases ne
      obtain ⟨z, hz, tail⟩ : ∃ z : Nat, (((o.map V.int).length : Int) - (if decide (((o.map V.int).length : Int) > 1) = true then 1 else 0)) = (z : Int) ∧ fnd ++ o.drop z = lp o := by
        rw [hom] at *
        rcases inv with ⟨h1, h2⟩ | ⟨p, cc, hp, hcc, hlp⟩
        · refine ⟨o.length, ?_, ?_⟩
          · rw [if_neg (by rw [decide_eq_true_eq]; omega)]
            omega
          · rw [h2, List.drop_length, List.append_nil]
            match o, h1 with
            | [], _ => rfl
            | [_], _ => rfl
        · have h2 : 2 ≤ o.length := by have := (List.getElem?_eq_some_iff.mp hcc).1; omega
          have ej : ((((o.length : Int) - 1) - 1).toNat) = o.length - 2 := by omega
          rw [ej] at hp hcc hlp
          have e3 : o.length - 2 + 2 = o.length := by omega
          have e4 : o.length - 2 + 1 = o.length - 1 := by omega
          rw [e3, List.drop_length] at hlp
          rw [e4] at hcc
          refine ⟨o.length - 1, ?_, ?_⟩
          · rw [if_pos (decide_eq_true (by omega))]
            omega
          · rw [hlp, drop_cons hcc, List.drop_eq_nil_of_le (by omega)]
            rfl
      have et : cutV (o.map V.int) (some (((o.map V.int).length : Int) - (if decide (((o.map V.int).length : Int) > 1) = true then 1 else 0))) none = (o.drop z).map V.int := by rw [hz, cut_from, List.map_drop]
      have sE : Same H (upd (upd (upd H D (.lst (o.map V.int))) c (.lst (fnd.map V.int))) e (.lst (cutV (o.map V.int) (some (((o.map V.int).length : Int) - (if decide (((o.map V.int).length : Int) > 1) = true then 1 else 0))) none))) :=
        ((sD _).trans (same_new nc)).trans (same_new ne)
      have lf : (fnd.map V.int).length ≤ 2501 := by rw [List.length_map]; rw [hom] at hfl; omega
      have lt : ((o.drop z).map V.int).length ≤ 2500 := by rw [List.length_map, List.length_drop]; omega
      refine ⟨c, e, fnd.map V.int, (o.drop z).map V.int, rfl, rfl, by rw [upd_ne nec, upd_same], by rw [upd_same]; exact congrArg (fun u => some (HO.lst u)) et, Nat.le_of_lt (Nat.lt_of_le_of_lt (Nat.add_le_add lf lt) (by decide)), fun g ng => ?_⟩
      refine hq _ g (sE.trans (same_new ng)) (sE.free ng) ?_
      rw [upd_same, ← List.map_append, tail, tp_lp, ho]
end
end WF2

/-! a call of a def that wants to know that no repr is under way -/
namespace GK
open PySem PySem.Spec PyProof.Rows L2 KW
section
variable {X : Cx} {k : Nat} {f : Addr} {fd : FuncData} {ps : List Str} {sp : Sp} {dvs : List V} {ds : List Value} {E : XK} {x : Str} {p pos : Pos} {e : Expr} {es : List Expr} {t : TA}
theorem pe_callG (F : Kept X.prog X.w X.K X.mg X.base k f fd ps sp) (hgd : X.A.guards = some []) (len : ∀ vs H Q E, sp vs H Q E → vs.length = ps.length) (hr : Room k X.A) (hg : Gl X x) (hm : X.mg x = some (.ref f)) (hk : PySem.W.keepIn X.K (.ref f) = true) (hb : Binds X.K fd ps ds) (hd : Vals dvs ds) (hx : Passes CX0 X E)
    (ha : PA X (e :: es) t) (hdb : (x == ("__debug__" : Str)) = false := by decide) (he : starEach (e :: es) X.env = (false, eval e X.env) :: starEach es X.env := by rfl) (hpl : (backTo pos (starEach es X.env)).any (·.1) = false := by rfl) :
    PE X (.Call (.Name x p) (e :: es) [] pos) (tCall sp dvs E t) := by
  refine ⟨fun pins s σ H Q I h => ?_⟩
  refine wpAny_Call_Name_kw (ld_glob I hg hm ?_ hdb)
  refine PySem.W.callWith_K (h₀ := X.base) I.ok.mod.kin hk (thn (ha.run pos pins s σ H _ I h) fun us s1 ⟨vs, H1, I1, r, q⟩ => ⟨I1.kIn, ?_⟩) he hpl
  have r2 : Vals (vs ++ dvs) (us ++ ds) := r.append hd
  have hl : (us ++ ds).length = ps.length := by rw [← r2.length]; exact len _ _ _ _ q
  refine wpAny_call (codeAny_mono (F X.A X.stack s1 H1 ⟨us, []⟩ (us ++ ds) (vs ++ dvs) Q E hgd hr I1.env0 (hb s1 us I1.kIn hl) r2 q) fun r s' hq => ?_)
  cases r with
  | error e => exact hx pins σ H1 s1 e s' I1 hq
  | ok fl =>
    cases fl with
    | ret u => exact I1.after hq
    | next => exact False.elim hq
    | brk => exact False.elim hq
    | cont => exact False.elim hq
end
end GK

/-! k04's own defs: ranges, places, the count, the halves -/
namespace WP
open PySem PySem.Spec PyProof.Rows L2 KA KD KL PH PM PA PB PC RM RN QE QF QG QH WF2
abbrev sLR : Stmt := topS 29
abbrev sLH : Stmt := topS 30
abbrev sPl : Stmt := topS 31
abbrev sCt : Stmt := topS 32
abbrev sHv : Stmt := topS 33
theorem scLR : FnScope ["one", "other"] ["one", "other"] (defScope sLR) := ⟨rfl, rfl, rfl, by decide +kernel, rfl, by decide +kernel, by decide +kernel⟩
theorem scLH : FnScope ["outer", "inner"] ["outer", "inner"] (defScope sLH) := ⟨rfl, rfl, rfl, by decide +kernel, rfl, by decide +kernel, by decide +kernel⟩
theorem scPl : FnScope ["points", "found", "k", "inner"] ["points"] (defScope sPl) := ⟨rfl, rfl, rfl, by decide +kernel, rfl, by decide +kernel, by decide +kernel⟩
theorem scCt : FnScope ["feed", "load", "points", "cycles", "point"] ["feed", "load"] (defScope sCt) := ⟨rfl, rfl, rfl, by decide +kernel, rfl, by decide +kernel, by decide +kernel⟩
theorem scHv : FnScope ["cycles", "rest", "found", "k"] ["cycles", "rest"] (defScope sHv) := ⟨rfl, rfl, rfl, by decide +kernel, rfl, by decide +kernel, by decide +kernel⟩
theorem cutv_to (xs : List V) (j : Nat) : cutV xs none (some (j : Int)) = xs.take j := by
  unfold cutV
  rw [HT.sIx_nat xs.length xs.length j, HT.sIx_none]
  rw [List.drop_zero, Nat.sub_zero]
  by_cases h : j ≤ xs.length
  · rw [Nat.min_eq_left h]
  · rw [Nat.min_eq_right (by omega), List.take_length, List.take_of_length_le (by omega)]
theorem cutv_from (xs : List V) (j : Nat) : cutV xs (some (j : Int)) none = xs.drop j := by
  unfold cutV
  rw [HT.sIx_nat xs.length 0 j, HT.sIx_none]
  by_cases h : j ≤ xs.length
  · rw [Nat.min_eq_left h, List.take_of_length_le (by rw [List.length_drop]; exact Nat.le_refl _)]
  · rw [Nat.min_eq_right (by omega), Nat.sub_self, List.take_zero, List.drop_of_length_le (by omega)]
theorem Ch.tup {f t : Addr} {H H' : Hp} {xs : List V} (c : Ch f H H') (fe : FeedAt H f) (h : H t = some (.tup xs)) : H' t = some (.tup xs) := by
  refine c _ _ (fun z => ?_) h
  obtain ⟨d, st, _, _, _, e⟩ := fe
  rw [z, e] at h
  cases h
theorem pairs_but {E : Addr} {H H' : Hp} {acc : List V} (k : ∀ b o, b ≠ E → H b = some o → H' b = some o) (hE : H E = some (.lst acc)) : ∀ {xs : List V} {rs : List (Int × Int)}, PairsAt H xs rs → PairsAt H' xs rs
  | [], [], _ => trivial
  | x :: xs, r :: rs, ⟨⟨p, h1, h2⟩, h3⟩ => ⟨⟨p, h1, k _ _ (fun z => by rw [z, hE] at h2; cases h2) h2⟩, pairs_but k hE h3⟩
  | [], _ :: _, h => h.elim
  | _ :: _, [], h => h.elim
theorem pairs_ch {f : Addr} {H H' : Hp} (c : Ch f H H') (fe : FeedAt H f) {xs : List V} {rs : List (Int × Int)} (h : PairsAt H xs rs) : PairsAt H' xs rs := by
  obtain ⟨d, st, _, _, _, e⟩ := fe
  exact pairs_but c e h
theorem CountAt.but {H H' : Hp} {E C x : Addr} {acc : List V} {ds : List (Int × Int)} {rs : List Int} (h : CountAt H C x ds rs) (k : ∀ b o, b ≠ E → H b = some o → H' b = some o) (hE : H E = some (.lst acc)) : CountAt H' C x ds rs := by
  obtain ⟨dx, t1, t2, ys, h1, h2, h3, h4⟩ := h
  exact ⟨dx, t1, t2, ys, k _ _ (fun z => by rw [z, hE] at h1; cases h1) h1, k _ _ (fun z => by rw [z, hE] at h2; cases h2) h2, pairs_but k hE h3, k _ _ (fun z => by rw [z, hE] at h4; cases h4) h4⟩
theorem CountAt.ch {H H' : Hp} {f C x : Addr} {ds : List (Int × Int)} {rs : List Int} (h : CountAt H C x ds rs) (c : Ch f H H') (fe : FeedAt H f) : CountAt H' C x ds rs := by
  obtain ⟨d, st, _, _, _, e⟩ := fe
  exact CountAt.but h c e
theorem plc_len (qs : List Int) : (plc qs).length ≤ qs.length - 3 := by
  unfold plc
  rw [List.length_map]
  have := List.length_filter_le (takenAt qs) (List.range (qs.length - 3))
  rw [List.length_range] at this
  exact this
section
variable {P : Program} {w : World} {K : PySem.W.Frag} {mg : Str → Option Value} {base : Heap}
theorem ok_LR {f : Addr} {fd : FuncData} {k : Nat} (F : Fun K "_law_range" "_law_range" sLR f fd) (mn : mg "min" = none) (mx : mg "max" = none) : FnOk P w K mg base CX0 (k + 1) f fd ["one", "other"] spRng := by
  refine F.ok scLR (fun vs H Q E h => ?_) (fun cdv A outer s H vs Q E hr h => ?_)
  · obtain ⟨a, b, rfl, _⟩ := h
    rfl
  · obtain ⟨a, b, rfl, hq⟩ := h
    refine ⟨_, pss_one (ps_ret (pe_tup (pa_cons (pe_callB (call_min2 rfl) (by rfl) mn (by decide +kernel) (pa_cons (pv 0) (pa_cons (pv 1) pa_nil))) (pa_cons (pe_callB (call_max2 rfl) (by rfl) mx (by decide +kernel) (pa_cons (pv 0) (pa_cons (pv 1) pa_nil))) pa_nil)))), ?_⟩
    exact ⟨.int a, rfl, .int b, rfl, a, b, rfl, .int a, rfl, .int b, rfl, a, b, rfl, by show 2 ≤ sizeLine; decide, fun p np => hq p np⟩
theorem ok_LH {f : Addr} {fd : FuncData} {k : Nat} (F : Fun K "_law_holds" "_law_holds" sLH f fd) : FnOk P w K mg base CX0 (k + 1) f fd ["outer", "inner"] (spCont K) := by
  refine F.ok scLH (fun vs H Q E h => ?_) (fun cdv A outer s H vs Q E hr h => ?_)
  · obtain ⟨p, q, a, b, c, d, rfl, _⟩ := h
    rfl
  · obtain ⟨p, q, a, b, c, d, rfl, h1, h2, hq⟩ := h
    refine ⟨_, pss_one (ps_ret (pe_and (pe_cmpR op_le (pe_ix ix_tup (pv 0) pe_int (fun _ _ => rfl)) (pe_ix ix_tup (pv 1) pe_int (fun _ _ => rfl)) (nomark _)) (pe_one (pe_cmpR op_le (pe_ix ix_tup (pv 1) pe_int (fun _ _ => rfl)) (pe_ix ix_tup (pv 0) pe_int (fun _ _ => rfl)) (nomark _))))), ?_⟩
    refine ⟨.ref p, rfl, p, _, 0, .int a, rfl, rfl, h1, rfl, .ref q, rfl, q, _, 0, .int c, rfl, rfl, h2, rfl, a, c, rfl, rfl, _, rfl, ?_⟩
    by_cases e : a ≤ c
    · rw [decide_eq_true e] at hq ⊢
      exact iteT ⟨.ref q, rfl, q, _, 1, .int d, rfl, rfl, h2, rfl, .ref p, rfl, p, _, 1, .int b, rfl, rfl, h1, rfl, d, b, rfl, rfl, hq⟩
    · rw [decide_eq_false e] at hq ⊢
      exact iteF hq
def spPl (K : PySem.W.Frag) : Sp := fun vs H Q _ => ∃ (a : Addr) (ps : List Int), vs = [.ref a] ∧ SqL K H a (ps.map V.int) ∧ ps.length ≤ 2000 ∧ ∀ H' p, Same H H' → H p = none → H' p = some (.lst ((plc ps).map V.int)) → Q (.ref p) H'
theorem ok_pl {f fR fC : Addr} {fd dR dC : FuncData} {k : Nat} (F : Fun K "_law_places" "_law_places" sPl f fd)
    (GR : FnOk P w K mg base CX0 (k + 1) fR dR ["one", "other"] spRng) (gR : mg "_law_range" = some (.ref fR)) (kR : PySem.W.keepIn K (.ref fR) = true) (bR : Binds K dR ["one", "other"] [])
    (GC : FnOk P w K mg base CX0 (k + 1) fC dC ["outer", "inner"] (spCont K)) (gC : mg "_law_holds" = some (.ref fC)) (kC : PySem.W.keepIn K (.ref fC) = true) (bC : Binds K dC ["outer", "inner"] [])
    (ml : mg "len" = none) (mr : mg "range" = none) : FnOk P w K mg base CX0 (k + 2) f fd ["points"] (spPl K) := by
  refine F.ok scPl (fun vs H Q E h => ?_) (fun cdv A outer s H vs Q E hr h => ?_)
  · obtain ⟨a, ps, rfl, _⟩ := h
    rfl
  · obtain ⟨a, ps, rfl, hS, hlen, hq⟩ := h
    refine ⟨_, pss_cons (ps_set (i := 1) scPl.nd rfl (.inl rfl) (pe_lst pa_nil))
      (pss_cons (ps_for PassesOwn.never rfl (pi_range2 (by rfl) mr (pa_cons pe_int (pa_cons (pe_op op_sub (pe_callB call_len_seq (by rfl) ml PySem.boot_len (pa_cons (pv 0) pa_nil)) pe_int) pa_nil))) (pg_name (i := 2) scPl.nd rfl (.inl rfl))
        (pss_cons (ps_set (i := 3) scPl.nd rfl (.inl rfl) (pe_call GR hr (by rfl) gR kR bR .nil pass0 (pa_cons (pe_ix ix_list (pv 0) (pv 2) (fun _ _ => rfl)) (pa_cons (pe_ix ix_list (pv 0) (pe_op op_add (pv 2) pe_int) (fun _ _ => rfl)) pa_nil))))
        (pss_one (ps_if (pt_val (pe_call GC hr (by rfl) gC kC bC .nil pass0 (pa_cons (pe_call GR hr (by rfl) gR kR bR .nil pass0 (pa_cons (pe_ix ix_list (pv 0) (pe_op op_sub (pv 2) pe_int) (fun _ _ => rfl)) (pa_cons (pe_ix ix_list (pv 0) (pv 2) (fun _ _ => rfl)) pa_nil))) (pa_cons (pv 3) pa_nil))))
          (pss_one (ps_if (pt_val (pe_call GC hr (by rfl) gC kC bC .nil pass0 (pa_cons (pe_call GR hr (by rfl) gR kR bR .nil pass0 (pa_cons (pe_ix ix_list (pv 0) (pe_op op_add (pv 2) pe_int) (fun _ _ => rfl)) (pa_cons (pe_ix ix_list (pv 0) (pe_op op_add (pv 2) pe_int) (fun _ _ => rfl)) pa_nil))) (pa_cons (pv 3) pa_nil))))
            (pss_one (ps_expr (pe_bm PySem.F.plainAttrs_list PySem.F.slot_list_append PySem.F.type_list_append mt_append (pv 1) (pa_cons (pv 2) pa_nil)))) pss_nil)) pss_nil))))
      (pss_one (ps_ret (pv 1)))), ?_⟩
    have hm : (ps.map V.int).length = ps.length := List.length_map _
    refine ⟨Nat.zero_le _, fun D nD => ?_⟩
    have sD := same_new (o := .lst []) nD
    refine ⟨.ref a, rfl, a, _, rfl, .inl (sD.seq hS), _, 2, rfl, rfl, 1, _, rfl, ⟨by decide, by decide, by rw [hm]; omega, by rw [hm]; omega⟩, for_range (lo := 1) (n := ((((ps.map V.int).length : Int) - 2) - 1).toNat) (fun i σ H' => Same H H' ∧ H' D = some (.lst ((((List.range i).filter (takenAt ps)).map fun (i : Nat) => (i : Int) + 1).map V.int)) ∧ ∃ r2 r3 : Option V, σ = [some (.ref a), some (.ref D), r2, r3]) ⟨sD, upd_same, _, _, rfl⟩ ?_ ?_⟩
    · rintro i σ H' hi ⟨sm, eD, r2, r3, rfl⟩
      rw [hm] at hi
      have hl : i + 3 < ps.length := by omega
      have ez : (1 : Int) + (i : Int) = (i : Int) + 1 := by omega
      obtain ⟨x, e0⟩ : ∃ x, ps[i]? = some x := ⟨_, List.getElem?_eq_getElem (by omega)⟩
      obtain ⟨y, e1⟩ : ∃ x, ps[i + 1]? = some x := ⟨_, List.getElem?_eq_getElem (by omega)⟩
      obtain ⟨t, e2⟩ : ∃ x, ps[i + 2]? = some x := ⟨_, List.getElem?_eq_getElem (by omega)⟩
      obtain ⟨u, e3⟩ : ∃ x, ps[i + 3]? = some x := ⟨_, List.getElem?_eq_getElem (by omega)⟩
      have a0 : atI (ps.map V.int) (1 + (i : Int) - 1) = some (.int x) := at_of (j := i) (by omega) (at_int e0)
      have a1 : atI (ps.map V.int) (1 + (i : Int)) = some (.int y) := at_of (j := i + 1) (by omega) (at_int e1)
      have a2 : atI (ps.map V.int) (1 + (i : Int) + 1) = some (.int t) := at_of (j := i + 2) (by omega) (at_int e2)
      have a3 : atI (ps.map V.int) (1 + (i : Int) + 2) = some (.int u) := at_of (j := i + 3) (by omega) (at_int e3)
      have hSm := sm.seq hS
      have tk := taken_get e0 e1 e2 e3
      have eT : decide (Taken x y t u) = ((decide ((rg x y).1 ≤ (rg y t).1) && decide ((rg y t).2 ≤ (rg x y).2)) && (decide ((rg t u).1 ≤ (rg y t).1) && decide ((rg y t).2 ≤ (rg t u).2))) := by
        unfold Taken
        simp only [Bool.decide_and]
      rw [eT] at tk
      have skip : ∀ {Hz : Hp}, Same H' Hz → takenAt ps i = false → Same H Hz ∧ Hz D = some (.lst ((((List.range (i + 1)).filter (takenAt ps)).map fun (i : Nat) => (i : Int) + 1).map V.int)) := fun {Hz} sz ht => by
        refine ⟨sm.trans sz, ?_⟩
        rw [List.range_succ, List.filter_append, List.filter_cons, ht]
        simp
        rw [sz _ _ eD]
        simp
      refine ⟨.ref a, rfl, .int (1 + (i : Int)), rfl, a, _, _, _, rfl, rfl, hSm, a1, .ref a, rfl, .int (1 + (i : Int)), rfl, _, 1, rfl, rfl, a, _, _, _, rfl, rfl, hSm, a2, y, t, rfl, fun p1 n1 => ?_⟩
      have s1 := same_new (o := .tup [.int (rg y t).1, .int (rg y t).2]) n1
      have g1 := upd_same (H := H') (a := p1) (o := .tup [.int (rg y t).1, .int (rg y t).2])
      generalize upd H' p1 (.tup [.int (rg y t).1, .int (rg y t).2]) = H1 at s1 g1 ⊢
      refine ⟨.ref a, rfl, .int (1 + (i : Int)), rfl, _, 1, rfl, rfl, a, _, _, _, rfl, rfl, s1.seq hSm, a0, .ref a, rfl, .int (1 + (i : Int)), rfl, a, _, _, _, rfl, rfl, s1.seq hSm, a1, x, y, rfl, fun p2 n2 => ?_⟩
      have s2 := same_new (o := .tup [.int (rg x y).1, .int (rg x y).2]) n2
      have g2 := upd_same (H := H1) (a := p2) (o := .tup [.int (rg x y).1, .int (rg x y).2])
      have g12 := s2 _ _ g1
      generalize upd H1 p2 (.tup [.int (rg x y).1, .int (rg x y).2]) = H2 at s2 g2 g12 ⊢
      refine ⟨.ref p1, rfl, p2, p1, _, _, _, _, rfl, SqT.of g2, SqT.of g12, _, rfl, ?_⟩
      cases h1 : (decide ((rg x y).1 ≤ (rg y t).1) && decide ((rg y t).2 ≤ (rg x y).2)) with
      | false =>
        rw [h1, Bool.false_and] at tk
        obtain ⟨z1, z2⟩ := skip (s1.trans s2) tk
        exact iteF ⟨z1, z2, _, _, rfl⟩
      | true =>
        rw [h1, Bool.true_and] at tk
        refine iteT ⟨.ref a, rfl, .int (1 + (i : Int)), rfl, _, 1, rfl, rfl, a, _, _, _, rfl, rfl, (s1.trans s2).seq hSm, a2, .ref a, rfl, .int (1 + (i : Int)), rfl, _, 2, rfl, rfl, a, _, _, _, rfl, rfl, (s1.trans s2).seq hSm, a3, t, u, rfl, fun p3 n3 => ?_⟩
        have s3 := same_new (o := .tup [.int (rg t u).1, .int (rg t u).2]) n3
        have g3 := upd_same (H := H2) (a := p3) (o := .tup [.int (rg t u).1, .int (rg t u).2])
        have g13 := s3 _ _ g12
        generalize upd H2 p3 (.tup [.int (rg t u).1, .int (rg t u).2]) = H3 at s3 g3 g13 ⊢
        have s13 := s1.trans (s2.trans s3)
        refine ⟨.ref p1, rfl, p3, p1, _, _, _, _, rfl, SqT.of g3, SqT.of g13, _, rfl, ?_⟩
        rw [← tk]
        cases ht : takenAt ps i with
        | true =>
          refine iteT ⟨.ref D, rfl, .inl ⟨rfl, _, SqL.of (s13 _ _ eD)⟩, .int (1 + (i : Int)), rfl, D, _, _, rfl, rfl, s13 _ _ eD, ?_, same_again nD (sm.trans s13), ?_, _, _, rfl⟩
          · rw [List.length_map, List.length_map]
            have := List.length_filter_le (takenAt ps) (List.range i)
            rw [List.length_range] at this
            exact small3000 (by omega)
          · rw [upd_same, List.range_succ, List.filter_append, List.filter_cons, ht, ez]
            simp [List.map_append]
        | false =>
          obtain ⟨z1, z2⟩ := skip s13 ht
          exact iteF ⟨z1, z2, _, _, rfl⟩
    · rintro σ H' ⟨sm, eD, r2, r3, rfl⟩
      have en : ((((ps.map V.int).length : Int) - 2) - 1).toNat = ps.length - 3 := by rw [hm]; omega
      rw [en] at eD
      exact ⟨.ref D, rfl, hq _ D sm nD eD⟩
def spHv (K : PySem.W.Frag) : Sp := fun vs H Q _ => ∃ (c r : Addr) (xs : List V) (ds : List (Int × Int)) (rs : List Int), vs = [.ref c, .ref r] ∧ H c = some (.lst xs) ∧ PairsAt H xs ds ∧ H r = some (.lst (rs.map V.int)) ∧ ds.length ≤ 1000 ∧ rs.length ≤ 1000 ∧
  ∀ H' p ys es, Same H H' → H p = none → H' p = some (.lst ys) → PairsAt H' ys es → es.Perm (ds ++ ds ++ sw rs) → es.Pairwise Le → Q (.ref p) H'
theorem ok_hv {f fR : Addr} {fd dR : FuncData} {k : Nat} (F : Fun K "_law_halves" "_law_halves" sHv f fd) (GR : FnOk P w K mg base CX0 (k + 1) fR dR ["one", "other"] spRng) (gR : mg "_law_range" = some (.ref fR)) (kR : PySem.W.keepIn K (.ref fR) = true) (bR : Binds K dR ["one", "other"] [])
    (ml : mg "len" = none) (mr : mg "range" = none) (ms : mg "sorted" = none) : FnOk P w K mg base CX0 (k + 2) f fd ["cycles", "rest"] (spHv K) := by
  refine F.ok scHv (fun vs H Q E h => ?_) (fun cdv A outer s H vs Q E hr h => ?_)
  · obtain ⟨c, r, xs, ds, rs, rfl, _⟩ := h
    rfl
  · obtain ⟨c, r, xs, ds, rs, rfl, hc, pa, hrr, ld, lr, q⟩ := h
    refine ⟨_, pss_cons (ps_set (i := 2) scHv.nd rfl (.inl rfl) (pe_op op_cat (pv 0) (pv 0)))
      (pss_cons (ps_for PassesOwn.never rfl (pi_range1 rfl mr (pa_cons (pe_op op_sub (pe_callB call_len_seq (by rfl) ml PySem.boot_len (pa_cons (pv 1) pa_nil)) pe_int) pa_nil)) (pg_name (i := 3) scHv.nd rfl (.inl rfl))
        (pss_one (ps_expr (pe_bm PySem.F.plainAttrs_list PySem.F.slot_list_append PySem.F.type_list_append mt_append (pv 2) (pa_cons (pe_call GR hr (by rfl) gR kR bR .nil pass0 (pa_cons (pe_ix ix_list (pv 1) (pv 3) (fun _ _ => rfl)) (pa_cons (pe_ix ix_list (pv 1) (pe_op op_add (pv 3) pe_int) (fun _ _ => rfl)) pa_nil))) pa_nil)))))
      (pss_one (ps_ret (pe_callB cr_sortedPO (by rfl) ms (by decide +kernel) (pa_cons (pv 2) pa_nil))))), ?_⟩
    have hm : (rs.map V.int).length = rs.length := List.length_map _
    have lx := pa.length
    refine ⟨.ref c, rfl, .ref c, rfl, c, c, _, _, rfl, rfl, hc, hc, Nat.le_trans (show xs.length + xs.length ≤ 3000 by omega) (by decide), fun D nD => ?_⟩
    have sD := same_new (o := .lst (xs ++ xs)) nD
    refine ⟨.ref r, rfl, r, _, rfl, .inl (SqL.of (sD _ _ hrr)), _, 1, rfl, rfl, _, rfl, by rw [hm]; omega, by rw [hm]; omega, for_range (lo := 0) (n := (((rs.map V.int).length : Int) - 1).toNat) (fun i σ H' => Same H H' ∧ ∃ (ys : List V) (r3 : Option V), H' D = some (.lst ys) ∧ PairsAt H' ys (ds ++ ds ++ (sw rs).take i) ∧ σ = [some (.ref c), some (.ref r), some (.ref D), r3]) ⟨sD, _, none, upd_same, ?_, rfl⟩ ?_ ?_⟩
    · rw [List.take_zero, List.append_nil]
      exact (pa.same sD).append (pa.same sD)
    · rintro i σ H' hi ⟨sm, ys, r3, eD, py, rfl⟩
      rw [hm] at hi
      obtain ⟨x, e0⟩ : ∃ x, rs[i]? = some x := ⟨_, List.getElem?_eq_getElem (by omega)⟩
      obtain ⟨y, e1⟩ : ∃ x, rs[i + 1]? = some x := ⟨_, List.getElem?_eq_getElem (by omega)⟩
      have er := sm _ _ hrr
      have ly := py.length
      refine ⟨.ref D, rfl, .inl ⟨rfl, _, SqL.of eD⟩, .ref r, rfl, .int (0 + (i : Int)), rfl, r, _, _, _, rfl, rfl, SqL.of er, at_of (j := i) (by omega) (at_int e0), .ref r, rfl, .int (0 + (i : Int)), rfl, _, 1, rfl, rfl, r, _, _, _, rfl, rfl, SqL.of er, at_of (j := i + 1) (by omega) (at_int e1), x, y, rfl, fun T nT => ?_⟩
      have sT := same_new (o := .tup [.int (rg x y).1, .int (rg x y).2]) nT
      refine ⟨D, ys, _, rfl, rfl, sT _ _ eD, ?_, same_again nD (sm.trans sT), ys ++ [.ref T], _, upd_same, ?_, rfl⟩
      · rw [ly]
        simp only [List.length_append, List.length_take, sw_len]
        exact Nat.lt_of_le_of_lt (show _ ≤ 4000 by omega) (by decide)
      · rw [sw_take rs i x y e0 e1, ← List.append_assoc]
        refine pairs_but (E := D) (fun b o nb e => by rw [upd_ne nb]; exact e) (sT _ _ eD) ((py.same sT).append ⟨⟨T, rfl, upd_same⟩, trivial⟩)
    · rintro σ H' ⟨sm, ys, r3, eD, py, rfl⟩
      rw [List.take_of_length_le (by rw [sw_len, hm]; omega)] at py
      refine ⟨.ref D, rfl, D, ys, kOf H', rfl, SqL.of eD, (pairs_key py).2, fun zs p g1 g2 np => ?_⟩
      obtain ⟨es, pe, perm, srt⟩ := sorted_out py g1 g2
      have sp := same_new (o := .lst zs) np
      exact q _ p zs es (sm.trans sp) (sm.free np) upd_same (pe.same sp) perm srt
end
end WP

/-! loads joined -/
namespace RJ
open PM RM RN RS K9
theorem tp_app : ∀ (b a : List Int), tp (a ++ b) = b.foldl push (tp a)
  | [], a => by rw [List.append_nil]; rfl
  | r :: b, a => by
    rw [List.foldl_cons, ← tp_push, ← tp_app b (a ++ [r])]
    simp
theorem tp_tpl (a b : List Int) : tp (tp a ++ b) = tp (a ++ b) := by rw [tp_app, tp_app, zz_tp (tp_zz a)]
theorem tp_tpr (a b : List Int) : tp (a ++ tp b) = tp (a ++ b) := by
  rw [← List.reverse_inj, ← tp_rev, ← tp_rev, List.reverse_append, List.reverse_append, ← tp_rev, tp_tpl]
theorem run_fold : ∀ (b : List Int) {p q : List Int} {cs : List (Int × Int)}, Run p cs q → ZZ p → Run (b.foldl push p) cs (b.foldl push q)
  | [], _, _, _, h, _ => h
  | r :: b, _, _, _, h, z => run_fold b (run_push h z r) (zz_push r z)
theorem run_l {a ra : List Int} {ca : List (Int × Int)} (h : Run (tp a) ca ra) (b : List Int) : Run (tp (a ++ b)) ca (tp (ra ++ b)) := by
  have z := h.zz (tp_zz a)
  have := run_fold b h (tp_zz a)
  rw [tp_app, tp_app, zz_tp z]
  exact this
theorem run_r {b rb : List Int} {cb : List (Int × Int)} (h : Run (tp b) cb rb) (a : List Int) : Run (tp (a ++ b)) cb (tp (a ++ rb)) := by
  have h1 := run_rev h
  rw [← tp_rev] at h1
  have h2 := run_rev (run_l h1 a.reverse)
  rw [← tp_rev, ← tp_rev] at h2
  simpa using h2
theorem joined {a b ra rb : List Int} {ca cb : List (Int × Int)} (h : Run (tp a) ca ra) (g : Run (tp b) cb rb) : Run (tp (a ++ b)) (ca ++ cb) (tp (ra ++ rb)) :=
  Run.append (run_l h b) (run_r g ra)
/-- a load with its count -/
abbrev Tri := List Int × List (Int × Int) × List Int
def lds (L : List Tri) : List Int := (L.map (·.1)).flatten
def cys (L : List Tri) : List (Int × Int) := (L.map (·.2.1)).flatten
def rss (L : List Tri) : List Int := (L.map (·.2.2)).flatten
theorem joinedN : ∀ (L : List Tri), (∀ t ∈ L, ∃ cs, cs.Perm t.2.1 ∧ Run (tp t.1) cs t.2.2) → ∃ cs, cs.Perm (cys L) ∧ Run (tp (lds L)) cs (tp (rss L))
  | [], _ => ⟨[], .nil, .nil _⟩
  | t :: L, h => by
    obtain ⟨c1, p1, r1⟩ := h t List.mem_cons_self
    obtain ⟨c2, p2, r2⟩ := joinedN L fun x hx => h x (List.mem_cons_of_mem _ hx)
    refine ⟨c1 ++ c2, p1.append p2, ?_⟩
    have := joined r1 r2
    rw [tp_tpr] at this
    exact this
end RJ

/-! a static method called by its class: C.m(..) -/
namespace SM
open PySem PySem.Spec PyProof.Rows L2
/-- the class has a static method m, the def g -/
structure SMet (K : PySem.W.Frag) (C : Addr) (mc : Value) (m : Str) (g : Addr) : Prop where
  at_ : ∃ p rest, PySem.W.findCls K (.ref C) mc m = some (.get (.builtin "staticmethod.__get__") (.ref p) .none (.ref C)) ∧ PySem.W.recIn K p "staticmethod" = some (.ref g :: rest)
  kp : PySem.W.keepIn K (.ref g) = true
section
variable {X : Cx} {CX : CXT} {k : Nat} {C g : Addr} {mc : Value} {sp : Sp} {E : XK} {o e : Expr} {es : List Expr} {m : Str} {pos apos : Pos} {ta : TE} {t : TA} {pl : Sem Bool}
theorem type_of_reads {K : PySem.W.Frag} (h : PySem.W.readsIn K C mc = true) : PySem.W.typeIn K (.ref C) = some mc := by
  unfold PySem.W.readsIn at h
  simp only [Bool.and_eq_true, beq_iff_eq] at h
  exact h.1.1.1.2
theorem getmeth_sm {pins : List (Addr × Obj)} {σ : L2.St} {H : Hp} {s : Shared} {A : Around} {E : Value → Shared → Prop} {Q : Value × List Value → Shared → Prop} (I : Inv X pins σ H s) (r : ClX.CRead X.K C mc) (c : SMet X.K C mc m g)
    (h : ∀ s', Inv X pins σ H s' → Q (.ref g, []) s') : wpAny (model X.prog X.w) A (getMethod (.ref C) m pl) Q E s := by
  obtain ⟨p, rest, a1, a2⟩ := c.at_
  obtain ⟨mm, hF⟩ := I.fr
  unfold getMethod
  refine wpAny_bind ((PySem.W.looks_specialIn I.kIn r.ga).here ?_)
  have e0 : (Manifest.canonical "type.__getattribute__" != "object.__getattribute__") = true := by decide +kernel
  simp only [e0, if_true]
  refine wpAny_bind (PySem.W.cls_sm hF I.ok.mod.kin (type_of_reads r.rd) r.rd a1 a2 rfl ?_)
  exact wpAny_pure (h _ (I.tok _))
def tSMeth (C : Addr) (sp : Sp) (E : XK) (ta : TE) (t : TA) : TE := fun σ H Q => ta σ H fun x H1 => x = V.ref C ∧ t σ H1 fun vs H2 => sp vs H2 Q E
theorem pe_smeth (ho : PE X o ta) (r : ClX.CRead X.K C mc) (c : SMet X.K C mc m g) (F : FnR X.prog X.w X.K X.mg X.base CX k g sp) (hr : Room k X.A) (hx : Passes CX X E) (ha : PA X (e :: es) t)
    (he : starEach (e :: es) X.env = (false, eval e X.env) :: starEach es X.env := by rfl) (hpl : (backTo pos (starEach es X.env)).any (·.1) = false := by rfl)
    (hev : eval ((o.Attribute m apos).Call (e :: es) [] pos) X.env = (do
      let ov ← eval o X.env
      standAt apos.atName
      let (f, first) ← holding [ov] (getMethod ov m pl)
      callWith pos f first (backTo pos (starEach (e :: es) X.env)) (backToKw pos (keywordEach [] X.env))) := by rfl) :
    PE X (.Call (.Attribute o m apos) (e :: es) [] pos) (tSMeth C sp E ta t) := by
  refine ⟨fun pins s σ H Q I h => ?_⟩
  rw [hev]
  refine wpAny_bind (wpAny_mono (ho.run pins s σ H _ I h) (fun u s1 hu => ?_) fun _ _ z => z)
  obtain ⟨x, H1, I1, rx, rfl, h1⟩ := hu
  cases rx
  refine wpAny_bind (wpAny_standAt ?_)
  refine wpAny_bind (wpAny_holding (getmeth_sm I1 r c fun s2 I2 => ?_))
  refine PySem.W.callWith_K (h₀ := X.base) I2.ok.mod.kin c.kp (thn (ha.run pos pins s2 σ H1 _ I2 h1) fun us s3 ⟨vs, H3, I3, rv, q⟩ => ⟨I3.kIn, ?_⟩) he hpl
  refine wpAny_call (codeAny_mono (F X.A X.stack s3 H3 us vs Q E hr I3.env0 rv q) fun r s' hq => ?_)
  cases r with
  | error e => exact hx pins σ H3 s3 e s' I3 hq
  | ok fl =>
    cases fl with
    | ret u => exact I3.after hq
    | next => exact False.elim hq
    | brk => exact False.elim hq
    | cont => exact False.elim hq
theorem pe_smeth0 (ho : PE X o ta) (r : ClX.CRead X.K C mc) (c : SMet X.K C mc m g) (F : FnR X.prog X.w X.K X.mg X.base CX k g sp) (hr : Room k X.A) (hx : Passes CX X E)
    (hev : eval ((o.Attribute m apos).Call [] [] pos) X.env = (do
      let ov ← eval o X.env
      standAt apos.atName
      let (f, first) ← holding [ov] (getMethod ov m pl)
      callWith pos f first (backTo pos (starEach [] X.env)) (backToKw pos (keywordEach [] X.env))) := by rfl) :
    PE X (.Call (.Attribute o m apos) [] [] pos) (tSMeth C sp E ta tNil) := by
  refine ⟨fun pins s σ H Q I h => ?_⟩
  rw [hev]
  refine wpAny_bind (wpAny_mono (ho.run pins s σ H _ I h) (fun u s1 hu => ?_) fun _ _ z => z)
  obtain ⟨x, H1, I1, rx, rfl, h1⟩ := hu
  cases rx
  refine wpAny_bind (wpAny_standAt ?_)
  refine wpAny_bind (wpAny_holding (getmeth_sm I1 r c fun s2 I2 => ?_))
  refine PySem.W.callWith_K0 I2.kIn c.kp ?_
  refine wpAny_call (codeAny_mono (F X.A X.stack s2 H1 [] [] Q E hr I2.env0 .nil h1) fun r s' hq => ?_)
  cases r with
  | error e => exact hx pins σ H1 s2 e s' I2 hq
  | ok fl =>
    cases fl with
    | ret u => exact I2.after hq
    | next => exact False.elim hq
    | brk => exact False.elim hq
    | cont => exact False.elim hq
end
end SM

/-! Count.joined -/
namespace UJN
open PySem PySem.Spec PyProof.Rows L2 KA PH PM PA PB PC RM RN RS QE QF QG QH RJ
theorem lc_any {J : It} {n : Nat} {G : Hp → Prop} {Y : Nat → Hp → V → Hp → Prop} (w : Walk J n G Y) {B : V → Hp → (Hp → Prop) → Prop} {H0 : Hp} {Qd : Hp → Prop} (Pv : Nat → Hp → Prop) (p0 : Pv 0 H0) (pg : ∀ i H, i ≤ n → Pv i H → G H)
    (step : ∀ i x H H', i < n → Pv i H → Y i H x H' → B x H' (Pv (i + 1))) (fin : ∀ H, Pv n H → Qd H) :
    ∃ W : Nat → Nat → Hp → Prop, (∃ m, W 0 m H0) ∧ ∀ i m H, W i m H → (J.stop i H ∧ Qd H) ∨ (J.go i H ∧ ∃ Nx : Hp → Prop, (∀ H', Nx H' → ∃ m', m' < m ∧ W (i + 1) m' H') ∧ ∀ x H', J.yld i H x H' → B x H' Nx) := by
  refine ⟨fun i m H => i ≤ n ∧ m = n - i ∧ Pv i H, ⟨n, Nat.zero_le _, rfl, p0⟩, ?_⟩
  rintro i m H ⟨hi, rfl, hp⟩
  rcases Nat.lt_or_ge i n with h | h
  · refine .inr ⟨w.goes i H h (pg i H hi hp), Pv (i + 1), fun H' hn => ⟨n - (i + 1), by omega, by omega, rfl, hn⟩, fun x H' hy => step i x H H' h hp (w.yields i H x H' h (pg i H hi hp) hy)⟩
  · have e : i = n := by omega
    subst e
    exact .inl ⟨w.stops H (pg i H hi hp), fin H hp⟩
/-- counts stand -/
def CntsAt (H : Hp) (C : Addr) : List V → List (List (Int × Int) × List Int) → Prop
  | [], [] => True
  | x :: xs, t :: ts => (∃ a, x = .ref a ∧ CountAt H C a t.1 t.2) ∧ CntsAt H C xs ts
  | _, _ => False
theorem CntsAt.same {C : Addr} {H H' : Hp} (s : Same H H') : ∀ {xs : List V} {ts : List (List (Int × Int) × List Int)}, CntsAt H C xs ts → CntsAt H' C xs ts
  | [], [], _ => trivial
  | _ :: _, _ :: _, ⟨⟨a, e, h⟩, r⟩ => ⟨⟨a, e, h.same s⟩, r.same s⟩
  | [], _ :: _, h => h.elim
  | _ :: _, [], h => h.elim
theorem CntsAt.length {C : Addr} {H : Hp} : ∀ {xs : List V} {ts : List (List (Int × Int) × List Int)}, CntsAt H C xs ts → xs.length = ts.length
  | [], [], _ => rfl
  | _ :: _, _ :: _, ⟨_, r⟩ => congrArg (· + 1) r.length
  | [], _ :: _, h => h.elim
  | _ :: _, [], h => h.elim
theorem CntsAt.get {C : Addr} {H : Hp} : ∀ {xs : List V} {ts : List (List (Int × Int) × List Int)}, CntsAt H C xs ts → ∀ {i : Nat} {x : V}, xs[i]? = some x → ∃ a t, x = .ref a ∧ ts[i]? = some t ∧ CountAt H C a t.1 t.2
  | x :: xs, t :: ts, ⟨⟨a, e, h⟩, r⟩, 0, y, hy => ⟨a, t, by rw [← e]; exact (Option.some.inj hy).symm, rfl, h⟩
  | x :: xs, t :: ts, ⟨_, r⟩, i + 1, y, hy => CntsAt.get r (i := i) hy
  | [], [], _, _, _, hy => by cases hy
  | [], _ :: _, h, _, _, _ => h.elim
  | _ :: _, [], h, _, _, _ => h.elim
def fr (ts : List (List (Int × Int) × List Int)) : List Int := (ts.map (·.2)).flatten
def fc (ts : List (List (Int × Int) × List Int)) : List (Int × Int) := (ts.map (·.1)).flatten
theorem fr_take {ts : List (List (Int × Int) × List Int)} {i : Nat} {t : List (Int × Int) × List Int} (h : ts[i]? = some t) : fr (ts.take (i + 1)) = fr (ts.take i) ++ t.2 := by
  unfold fr; rw [List.take_add_one, h]; simp
theorem fc_take {ts : List (List (Int × Int) × List Int)} {i : Nat} {t : List (Int × Int) × List Int} (h : ts[i]? = some t) : fc (ts.take (i + 1)) = fc (ts.take i) ++ t.1 := by
  unfold fc; rw [List.take_add_one, h]; simp
theorem flat_len {α β : Type} (f : α → List β) (ts : List α) (i : Nat) : ((ts.take i).map f).flatten.length ≤ ((ts.map f).flatten).length := by
  have : (ts.map f).flatten = ((ts.take i).map f).flatten ++ ((ts.drop i).map f).flatten := by
    rw [← List.flatten_append, ← List.map_append, List.take_append_drop]
  rw [this, List.length_append]
  omega
theorem pairs_in {H : Hp} {xs : List V} {rs : List (Int × Int)} (h : PairsAt H xs rs) {i : Nat} {x : V} (hx : xs[i]? = some x) : ∃ p r, x = .ref p ∧ rs[i]? = some r ∧ H p = some (.tup [.int r.1, .int r.2]) := by
  induction xs generalizing rs i with
  | nil => cases hx
  | cons y xs ih =>
    cases rs with
    | nil => exact h.elim
    | cons r rs =>
      obtain ⟨⟨p, e, hp⟩, h2⟩ := h
      cases i with
      | zero => exact ⟨p, r, by rw [← e]; exact (Option.some.inj hx).symm, rfl, hp⟩
      | succ i => exact ih h2 hx
theorem pairs_at1 {H : Hp} {q : Addr} {r : Int × Int} (h : H q = some (.tup [.int r.1, .int r.2])) : PairsAt H [.ref q] [r] := ⟨⟨q, rfl, h⟩, trivial⟩
end UJN

/-! the law's own count, by a stack of slices -/
namespace UCT
open PySem PySem.Spec PyProof.Rows L2 KA KD KL PH PM PA PB PC RM RN RS QE QF QG QH WF2 WP
theorem last4 : ∀ {m : List Int}, 4 ≤ m.length → ∃ pre b c d e, m = pre ++ [b, c, d, e] := by
  intro m h
  rcases List.eq_nil_or_concat m with rfl | ⟨m1, e, rfl⟩
  · simp at h
  · obtain ⟨pre, b, c, d, rfl⟩ := last3 (m := m1) (by simp at h; omega)
    exact ⟨pre, b, c, d, e, by simp⟩
theorem cut_neg {α : Type} (xs : List V) (j : Nat) : cutV xs (some (-((j : Int) + 1))) none = xs.drop (xs.length - (j + 1)) := by
  unfold cutV
  have e : HT.sIx xs.length 0 (some (-((j : Int) + 1))) = xs.length - (j + 1) := by
    show (if (-((j : Int) + 1)) < 0 then (-((j : Int) + 1) + (xs.length : Int)).toNat else min (-((j : Int) + 1)).toNat xs.length) = xs.length - (j + 1)
    rw [if_pos (by omega)]
    omega
  rw [HT.sIx_none, e]
  exact List.take_of_length_le (by rw [List.length_drop]; omega)
theorem cut_toneg (xs : List V) (j : Nat) : cutV xs none (some (-((j : Int) + 1))) = xs.take (xs.length - (j + 1)) := by
  unfold cutV
  have e : HT.sIx xs.length xs.length (some (-((j : Int) + 1))) = xs.length - (j + 1) := by
    show (if (-((j : Int) + 1)) < 0 then (-((j : Int) + 1) + (xs.length : Int)).toNat else min (-((j : Int) + 1)).toNat xs.length) = xs.length - (j + 1)
    rw [if_pos (by omega)]
    omega
  rw [HT.sIx_none, e, List.drop_zero, Nat.sub_zero]
theorem plc4 (b c d e : Int) : plc [b, c, d, e] = if Taken b c d e then [1] else [] := by
  unfold plc
  show (((List.range 1).filter (takenAt [b, c, d, e])).map fun (i : Nat) => (i : Int) + 1) = _
  have : takenAt [b, c, d, e] 0 = decide (Taken b c d e) := rfl
  by_cases h : Taken b c d e
  · rw [if_pos h, show List.range 1 = [0] from rfl, List.filter_cons, this, decide_eq_true h]; rfl
  · rw [if_neg h, show List.range 1 = [0] from rfl, List.filter_cons, this, decide_eq_false h]; rfl
theorem plc_short {m : List Int} (h : m.length ≤ 3) : plc m = [] := by
  unfold plc
  rw [Nat.sub_eq_zero_of_le h]; rfl
theorem plc_short' {mm : List Int} {r : Int} (h : ¬ 3 ≤ mm.length) : plc ((mm ++ [r]).drop ((mm ++ [r]).length - 4)) = [] := by
  refine plc_short ?_
  rw [List.length_drop, List.length_append, List.length_singleton]
  omega
/-- what the loops hold -/
structure Ls (H : Hp) (t C P : Addr) (tp' : List Int) (ps : List Int) (xs : List V) (cs : List (Int × Int)) (Hx : Hp) : Prop where
  sm : Same H Hx
  tu : Hx t = some (.lst (tp'.map V.int))
  pl : Hx P = some (.lst (ps.map V.int))
  c : Hx C = some (.lst xs)
  pa : PairsAt Hx xs cs
  nP : H P = none
  PC : P ≠ C
  Pt : P ≠ t
  tC : t ≠ C
theorem Ls.same {H : Hp} {t C P : Addr} {tt ps : List Int} {xs : List V} {cs : List (Int × Int)} {H1 H2 : Hp} (g : Ls H t C P tt ps xs cs H1) (s : Same H1 H2) : Ls H t C P tt ps xs cs H2 :=
  ⟨g.sm.trans s, s _ _ g.tu, s _ _ g.pl, s _ _ g.c, g.pa.same s, g.nP, g.PC, g.Pt, g.tC⟩
section
variable {P : Program} {w : World} {K : PySem.W.Frag} {mg : Str → Option Value} {base : Heap}
def spCt (K : PySem.W.Frag) : Sp := fun vs H Q _ => ∃ (f a : Addr) (ns : List Int), vs = [.ref f, .ref a] ∧ SqL K H a (ns.map V.int) ∧ ns.length ≤ 500 ∧
  ∀ H' p q1 q2 ys cs ds rs, Same H H' → H p = none → H q1 = none → H' p = some (.tup [.ref q1, .ref q2]) → H' q1 = some (.lst ys) → PairsAt H' ys ds → ds.Perm cs → ds.Pairwise Le → H' q2 = some (.lst (rs.map V.int)) → Run (tp ns) cs rs → NF rs → Q (.ref p) H'
theorem ok_ct {f0 fLP fPL fLR : Addr} {fd dLP dPL dLR : FuncData} {k : Nat} (F : Fun K "_law_count" "_law_count" sCt f0 fd)
    (GLP : FnOk P w K mg base CX0 (k + 2) fLP dLP ["load"] (spLP K)) (gLP : mg "_law_points" = some (.ref fLP)) (kLP : PySem.W.keepIn K (.ref fLP) = true) (bLP : Binds K dLP ["load"] [])
    (GPL : FnOk P w K mg base CX0 (k + 2) fPL dPL ["points"] (spPl K)) (gPL : mg "_law_places" = some (.ref fPL)) (kPL : PySem.W.keepIn K (.ref fPL) = true) (bPL : Binds K dPL ["points"] [])
    (GLR : FnOk P w K mg base CX0 (k + 2) fLR dLR ["one", "other"] spRng) (gLR : mg "_law_range" = some (.ref fLR)) (kLR : PySem.W.keepIn K (.ref fLR) = true) (bLR : Binds K dLR ["one", "other"] [])
    (ms : mg "sorted" = none) : FnOk P w K mg base CX0 (k + 3) f0 fd ["feed", "load"] (spCt K) := by
  refine F.ok scCt (fun vs H Q E h => ?_) (fun cdv A outer s H vs Q E hr h => ?_)
  · obtain ⟨f, a, ns, rfl, _⟩ := h
    rfl
  · obtain ⟨f, a, ns, rfl, hS, hlen, hq⟩ := h
    refine ⟨_, pss_cons (ps_par (i := 2) (j := 3) (by rfl) scCt.nd rfl rfl (by decide) rfl rfl (pa_cons (pe_lst pa_nil) (pa_cons (pe_lst pa_nil) pa_nil)) (by rfl))
      (pss_cons (ps_for PassesOwn.never rfl (pi_list (pe_call GLP hr (by rfl) gLP kLP bLP .nil pass0 (pa_cons (pv 1) pa_nil))) (pg_name (i := 4) scCt.nd rfl (.inl rfl))
        (pss_cons (ps_expr (pe_bm PySem.F.plainAttrs_list PySem.F.slot_list_append PySem.F.type_list_append mt_append (pv 2) (pa_cons (pv 4) pa_nil)))
        (pss_one (ps_while PassesOwn.never (pt_cmpR (op_neD hr.units) (pe_call GPL hr (by rfl) gPL kPL bPL .nil pass0 (pa_cons (pe_slice sl_list (pv 2) (po_some (pe_un un_neg pe_int)) po_none) pa_nil)) (pe_lst pa_nil) (nomark _))
          (pss_cons (ps_expr (pe_bm PySem.F.plainAttrs_list PySem.F.slot_list_append PySem.F.type_list_append mt_append (pv 3) (pa_cons (pe_call GLR hr (by rfl) gLR kLR bLR .nil pass0 (pa_cons (pe_ix ix_list (pv 2) (pe_un un_neg pe_int) (fun _ _ => rfl)) (pa_cons (pe_ix ix_list (pv 2) (pe_un un_neg pe_int) (fun _ _ => rfl)) pa_nil))) pa_nil)))
          (pss_one (ps_set (i := 2) scCt.nd rfl (.inl rfl) (pe_op op_cat (pe_slice sl_list (pv 2) po_none (po_some (pe_un un_neg pe_int))) (pe_slice sl_list (pv 2) (po_some (pe_un un_neg pe_int)) po_none)))))))))
      (pss_one (ps_ret (pe_tup (pa_cons (pe_callB cr_sortedPO (by rfl) ms (by decide +kernel) (pa_cons (pv 3) pa_nil)) (pa_cons (pv 2) pa_nil)))))), ?_⟩
    refine ⟨Nat.zero_le _, fun P0 nP => ⟨Nat.zero_le _, fun C nC => ⟨.ref P0, .ref C, rfl, ?_⟩⟩⟩
    have nPC : P0 ≠ C := fun z => by rw [← z, upd_same] at nC; cases nC
    have nC0 : H C = none := (same_new nP).free nC
    have sm0 : Same H (upd (upd H P0 (.lst [])) C (.lst [])) := (same_new nP).trans (same_new nC)
    have eP0 : (upd (upd H P0 (.lst [])) C (.lst [])) P0 = some (.lst []) := by rw [upd_ne nPC, upd_same]
    have eC0 : (upd (upd H P0 (.lst [])) C (.lst [])) C = some (.lst []) := upd_same
    generalize upd (upd H P0 (.lst [])) C (.lst []) = H0 at sm0 eC0 eP0 ⊢
    refine ⟨.ref a, rfl, a, ns, rfl, sm0.seq hS, by omega, fun H1 t s1 nt et => ?_⟩
    have htl := tp_len ns
    have eP1 := s1 _ _ eP0
    have eC1 := s1 _ _ eC0
    have ntP : P0 ≠ t := fun z => by rw [← z, eP0] at nt; cases nt
    have ntC : t ≠ C := fun z => by rw [z, eC0] at nt; cases nt
    have g0 : Ls H t C P0 (tp ns) [] [] [] H1 := ⟨sm0.trans s1, et, eP1, eC1, trivial, nP, nPC, ntP, ntC⟩
    refine ⟨t, rfl, ⟨_, SqL.of et⟩, for_list (K := K) (a := t) (xs := (tp ns).map V.int) (fun i σ Hx => ∃ (P' : Addr) (xs : List V) (cs : List (Int × Int)) (rs : List Int) (r4 : Option V), σ = [some (.ref f), some (.ref a), some (.ref P'), some (.ref C), r4] ∧
      Ls H t C P' (tp ns) rs xs cs Hx ∧ Run ((tp ns).take i) cs rs ∧ NF rs) ?_ ?_ ?_ ?_⟩
    · exact ⟨P0, [], [], [], none, rfl, g0, .nil _, fun c q s => by have := s.len; simp at this⟩
    · rintro i σ Hx _ ⟨P', xs, cs, rs, r4, rfl, g, _⟩
      exact SqL.of g.tu
    · rintro i x σ Hx hx ⟨P', xs, cs, rs, r4, rfl, g, run, nf⟩
      obtain ⟨r, hr2, rfl⟩ := int_at hx
      have hin : i < (tp ns).length := (List.getElem?_eq_some_iff.mp hr2).1
      have hrl := run.len
      rw [List.length_take] at hrl
      refine ⟨.ref P', rfl, .inl ⟨rfl, _, SqL.of g.pl⟩, .int r, rfl, P', _, _, rfl, rfl, g.pl, by rw [List.length_map]; exact small3000 (by omega), ?_⟩
      have e1 : rs.map V.int ++ [V.int r] = (rs ++ [r]).map V.int := by rw [List.map_append]; rfl
      rw [e1]
      have g1 : Ls H t C P' (tp ns) (rs ++ [r]) xs cs (upd Hx P' (.lst ((rs ++ [r]).map V.int))) :=
        ⟨same_again g.nP g.sm, by rw [upd_ne g.Pt.symm]; exact g.tu, upd_same, by rw [upd_ne g.PC.symm]; exact g.c, pairs_upd g.pl g.pa, g.nP, g.PC, g.Pt, g.tC⟩
      have run1 : Run ((tp ns).take (i + 1)) cs (rs ++ [r]) := by
        rw [List.take_add_one, hr2]
        exact RN.Run.suffix run [r]
      refine ⟨fun m σ Hx => ∃ (P' : Addr) (xs : List V) (cs : List (Int × Int)) (mm : List Int), m = mm.length ∧ σ = [some (.ref f), some (.ref a), some (.ref P'), some (.ref C), some (.int r)] ∧ Ls H t C P' (tp ns) (mm ++ [r]) xs cs Hx ∧ Run ((tp ns).take (i + 1)) cs (mm ++ [r]) ∧ NF mm,
        ⟨_, P', xs, cs, rs, rfl, rfl, g1, run1, nf⟩, ?_⟩
      clear g1 run1 g run nf hrl e1 xs cs rs P'
      rintro m σ Hx ⟨P', xs, cs, mm, rfl, rfl, g, run, nf⟩
      have hrl := run.len
      rw [List.length_take, List.length_append, List.length_singleton] at hrl
      have hm : ((mm ++ [r]).map V.int).length = mm.length + 1 := by simp
      have fin : NF (mm ++ [r]) → ∀ Hz, Same Hx Hz → ∃ (P'' : Addr) (xs : List V) (cs : List (Int × Int)) (rs : List Int) (r4 : Option V), [some (.ref f), some (.ref a), some (.ref P'), some (.ref C), some (.int r)] = [some (.ref f), some (.ref a), some (.ref P''), some (.ref C), r4] ∧
          Ls H t C P'' (tp ns) rs xs cs Hz ∧ Run ((tp ns).take (i + 1)) cs rs ∧ NF rs := fun n Hz sz => ⟨P', xs, cs, mm ++ [r], _, rfl, g.same sz, run, n⟩
      refine ⟨.ref P', rfl, 4, rfl, _, rfl, P', _, rfl, SqL.of g.pl, fun q nq => ?_⟩
      have eq4 : cutV ((mm ++ [r]).map V.int) (some (-(4 : Int))) none = ((mm ++ [r]).drop ((mm ++ [r]).length - 4)).map V.int := by
        rw [show (-(4 : Int)) = -(((3 : Nat) : Int) + 1) by decide, cut_neg (α := Int), List.map_drop, List.length_map]
      rw [eq4]
      have s2 := same_new (o := .lst (((mm ++ [r]).drop ((mm ++ [r]).length - 4)).map V.int)) nq
      have eqq := upd_same (H := Hx) (a := q) (o := .lst (((mm ++ [r]).drop ((mm ++ [r]).length - 4)).map V.int))
      generalize upd Hx q (.lst (((mm ++ [r]).drop ((mm ++ [r]).length - 4)).map V.int)) = H2 at s2 eqq ⊢
      refine ⟨q, _, rfl, SqL.of eqq, by rw [List.length_drop]; omega, fun H3 p1 s3 n1 ep1 => ⟨Nat.zero_le _, fun e1 ne1 => ?_⟩⟩
      have s4 := same_new (o := .lst []) ne1
      have ep1' := s4 _ _ ep1
      have ee1 := upd_same (H := H3) (a := e1) (o := .lst [])
      have s24 := s2.trans (s3.trans s4)
      generalize upd H3 e1 (.lst []) = H4 at s4 ep1' ee1 s24 ⊢
      clear s2 s3 s4 eqq ep1
      by_cases h3 : 3 ≤ mm.length
      · obtain ⟨pre, b, c, d, rfl⟩ := last3 h3
        have hml : (pre ++ [b, c, d]).length = pre.length + 3 := by simp
        have el : pre ++ [b, c, d] ++ [r] = pre ++ b :: c :: d :: r :: [] := by simp
        have ed : (pre ++ [b, c, d] ++ [r]).drop ((pre ++ [b, c, d] ++ [r]).length - 4) = [b, c, d, r] := by
          rw [el, show (pre ++ [b, c, d, r]).length - 4 = pre.length by simp, List.drop_left]
        rw [ed, plc4] at ep1'
        by_cases tk : Taken b c d r
        · rw [if_pos tk] at ep1'
          refine ⟨.list (dInts [1]), .list (dInts []), .lst (SqL.of ep1') (dp_ints [1]), .lst (SqL.of ee1) (dp_ints []), shaped_lst [1], shaped_lst [], _, rfl, ?_⟩
          rw [show PyData.eqv (.list (dInts [1])) (.list (dInts [])) = false by rfl]
          refine iteT ⟨fun σ Hx => ∃ m', m' < (pre ++ [b, c, d]).length ∧ ∃ (P' : Addr) (xs : List V) (cs : List (Int × Int)) (mm : List Int), m' = mm.length ∧ σ = [some (.ref f), some (.ref a), some (.ref P'), some (.ref C), some (.int r)] ∧ Ls H t C P' (tp ns) (mm ++ [r]) xs cs Hx ∧ Run ((tp ns).take (i + 1)) cs (mm ++ [r]) ∧ NF mm, fun _ _ z => z, ?_⟩
          have g2 := g.same s24
          have eR : H4 P' = some (.lst ((pre ++ [b]).map V.int ++ [V.int c, V.int d, V.int r])) := by
            rw [g2.pl]
            simp [List.map_append]
          refine ⟨.ref C, rfl, .inl ⟨rfl, _, SqL.of g2.c⟩, .ref P', rfl, 3, rfl, P', _, -3, .int c, rfl, rfl, SqL.of eR, atI_last3 _ _ _ _, .ref P', rfl, 2, rfl, P', _, -2, .int d, rfl, rfl, SqL.of eR, atI_last2' _ _ _ _, c, d, rfl, fun q2 nq2 => ?_⟩
          have s5 := same_new (o := .tup [.int (rg c d).1, .int (rg c d).2]) nq2
          have eq2 := upd_same (H := H4) (a := q2) (o := .tup [.int (rg c d).1, .int (rg c d).2])
          have g3 := g2.same s5
          have hxl : xs.length ≤ 2500 := by rw [g2.pa.length]; omega
          generalize upd H4 q2 (.tup [.int (rg c d).1, .int (rg c d).2]) = H5 at s5 eq2 g3 ⊢
          refine ⟨C, xs, .ref q2, rfl, rfl, g3.c, small3000 (by omega), ?_⟩
          have nC0 : H C = none := nC0
          have g4 : Ls H t C P' (tp ns) (pre ++ [b, c, d] ++ [r]) (xs ++ [.ref q2]) (cs ++ [rg c d]) (upd H5 C (.lst (xs ++ [.ref q2]))) :=
            ⟨same_again nC0 g3.sm, by rw [upd_ne g.tC]; exact g3.tu, by rw [upd_ne g.PC]; exact g3.pl, upd_same, PairsAt.append (pairs_upd g3.c g3.pa) ⟨⟨q2, rfl, by rw [upd_ne (fun z => by rw [z, g3.c] at eq2; cases eq2)]; exact eq2⟩, trivial⟩, g.nP, g.PC, g.Pt, g.tC⟩
          generalize upd H5 C (.lst (xs ++ [.ref q2])) = H6 at g4 ⊢
          refine ⟨.ref P', rfl, 3, rfl, _, rfl, P', _, rfl, SqL.of g4.pl, fun l1 nl1 => ?_⟩
          have c1 : cutV ((pre ++ [b, c, d] ++ [r]).map V.int) none (some (-(3 : Int))) = (pre ++ [b]).map V.int := by
            rw [show (-(3 : Int)) = -(((2 : Nat) : Int) + 1) by decide, cut_toneg, List.length_map, ← List.map_take]
            congr 1
            rw [show pre ++ [b, c, d] ++ [r] = (pre ++ [b]) ++ [c, d, r] by simp, show ((pre ++ [b]) ++ [c, d, r]).length - (2 + 1) = (pre ++ [b]).length by simp, List.take_left]
          rw [c1]
          have s6 := same_new (o := .lst ((pre ++ [b]).map V.int)) nl1
          refine ⟨.ref P', rfl, 1, rfl, _, rfl, P', _, rfl, SqL.of (s6 _ _ g4.pl), fun l2 nl2 => ?_⟩
          have c2 : cutV ((pre ++ [b, c, d] ++ [r]).map V.int) (some (-(1 : Int))) none = [r].map V.int := by
            rw [show (-(1 : Int)) = -(((0 : Nat) : Int) + 1) by decide, cut_neg (α := Int), List.length_map, ← List.map_drop]
            congr 1
            rw [show (pre ++ [b, c, d] ++ [r]).length - (0 + 1) = (pre ++ [b, c, d]).length by simp, List.drop_left]
          rw [c2]
          have s7 := same_new (o := .lst ([r].map V.int)) nl2
          have g7 := (g4.same s6).same s7
          refine ⟨l1, l2, _, _, rfl, rfl, s7 _ _ upd_same, upd_same, ?_, fun P'' nP'' => ?_⟩
          · rw [List.length_map, List.length_map]
            have hb : (pre ++ [b]).length = pre.length + 1 := by simp
            rw [hb]
            exact Nat.le_of_lt (small3000 (show pre.length + 1 + 1 ≤ 3000 by omega))
          have e8 : (pre ++ [b]).map V.int ++ [r].map V.int = (pre ++ [b] ++ [r]).map V.int := by rw [← List.map_append]
          rw [e8]
          have s8 := same_new (o := .lst ((pre ++ [b] ++ [r]).map V.int)) nP''
          have g8 := g7.same s8
          have n8C : P'' ≠ C := fun z => by rw [z, g7.c] at nP''; cases nP''
          have n8t : P'' ≠ t := fun z => by rw [z, g7.tu] at nP''; cases nP''
          refine ⟨(pre ++ [b]).length, by simp, P'', _, _, pre ++ [b], rfl, rfl, ⟨g8.sm, g8.tu, upd_same, g8.c, g8.pa, g7.sm.free nP'', n8C, n8t, g.tC⟩, ?_, nf_prefix (l := [c, d]) (by simpa using nf)⟩
          refine run.snoc ?_
          rw [el, List.append_assoc]
          exact (Step.here tk).prefix pre
        · rw [if_neg tk] at ep1'
          refine ⟨.list (dInts []), .list (dInts []), .lst (SqL.of ep1') (dp_ints []), .lst (SqL.of ee1) (dp_ints []), shaped_lst [], shaped_lst [], _, rfl, ?_⟩
          rw [eqv_same (shaped_lst [])]
          refine iteF (fin (nf_push nf fun pre' b' c' d' e => ?_) _ s24)
          have e6 : pre' ++ [b', c', d', r] = (pre' ++ [b', c', d']) ++ [r] := by simp
          rw [e6] at e
          obtain ⟨e7, _⟩ := List.append_inj' e rfl
          obtain ⟨_, e8⟩ := List.append_inj' e7 rfl
          injection e8 with h1 h2
          injection h2 with h2 h3
          injection h3 with h3 _
          subst h1 h2 h3
          exact tk
      · have es : plc ((mm ++ [r]).drop ((mm ++ [r]).length - 4)) = [] := plc_short' (by omega)
        rw [es] at ep1'
        refine ⟨.list (dInts []), .list (dInts []), .lst (SqL.of ep1') (dp_ints []), .lst (SqL.of ee1) (dp_ints []), shaped_lst [], shaped_lst [], _, rfl, ?_⟩
        rw [eqv_same (shaped_lst [])]
        refine iteF (fin (nf_push nf fun pre' b' c' d' e => ?_) _ s24)
        have : (mm ++ [r]).length = (pre' ++ [b', c', d', r]).length := by rw [e]
        simp only [List.length_append, List.length_cons, List.length_nil] at this
        omega
    · rintro σ Hx ⟨P', xs, cs, rs, r4, rfl, g, run, nf⟩
      have et2 : (tp ns).take ((tp ns).map V.int).length = tp ns := by rw [List.length_map]; exact List.take_length
      rw [et2] at run
      refine ⟨.ref C, rfl, C, xs, kOf Hx, rfl, SqL.of g.c, (pairs_key g.pa).2, fun ys p h1 h2 np => ?_⟩
      obtain ⟨ds, pd, perm, srt⟩ := sorted_out g.pa h1 h2
      have s2 := same_new (o := .lst ys) np
      refine ⟨.ref P', rfl, by show 2 ≤ sizeLine; decide, fun q nq => ?_⟩
      have s3 := same_new (o := .tup [.ref p, .ref P']) nq
      exact hq _ q p P' ys cs ds rs (g.sm.trans (s2.trans s3)) (g.sm.free (s2.free nq)) (g.sm.free np) upd_same (s3 _ _ upd_same) ((pd.same s2).same s3) perm srt (s3 _ _ (s2 _ _ g.pl)) run nf
end
end UCT

/-! walks and items of what is a list or a tuple; keyword-only parameters -/
namespace GB
open PySem PySem.Spec PyProof.Rows L2 PH KA
section
variable {X : Cx} {tg l : Expr} {tl : TE}
def iBoth (K : PySem.W.Frag) (tl : TE) : TI := fun σ H R => tl σ H fun x H1 => ∃ a, x = .ref a ∧ (((∃ xs, SqL K H1 a xs) ∧ R (Itl K a) H1) ∨ ((∃ xs, SqT K H1 a xs) ∧ R (Itt K a) H1))
theorem pi_both (hl : PE X l tl) : PI X tg l (iBoth X.K tl) := by
  refine ⟨fun pins s σ H R I h => ?_⟩
  refine thn (hl.run pins s σ H _ I h) fun v s1 ⟨x, H1, I1, r1, q1⟩ => ?_
  obtain ⟨a, e, q⟩ := q1
  subst e
  cases r1
  rcases q with ⟨⟨xs, hq⟩, q⟩ | ⟨⟨xs, hq⟩, q⟩
  · obtain ⟨its, rv, p, hz⟩ := I1.list hq
    refine wpAny_pyIter_list p.isList ?_
    refine ⟨s1.heap.objs.size, [s1.heap.objs.size], _, _, H1, rfl, I1.kept (t' := s1.toks) fun b o e => Heap.get?_push_of_some _ e, turn_list a _, ⟨_, Heap.get?_push_size _ rfl, rfl, rfl⟩, fun b hb => ?_, q⟩
    have e : b = s1.heap.objs.size := by simpa using hb
    subst e
    exact I1.fpOk (Nat.le_refl _) (I1.hok.fresh (Nat.le_refl _))
  · obtain ⟨its, rv, p, hz⟩ := I1.tuple hq
    refine wpAny_pyIter_tuple (show s1.heap.IsTuple a its.toArray from p) ?_
    refine ⟨s1.heap.objs.size, [s1.heap.objs.size], _, _, H1, rfl, I1.kept (t' := s1.toks) fun b o e => Heap.get?_push_of_some _ e, turn_tuple a _, ⟨_, Heap.get?_push_size _ rfl, rfl, rfl⟩, fun b hb => ?_, q⟩
    have e : b = s1.heap.objs.size := by simpa using hb
    subst e
    exact I1.fpOk (Nat.le_refl _) (I1.hok.fresh (Nat.le_refl _))
def rIxB (K : PySem.W.Frag) : R2 := fun x y H Q => ∃ p xs i v, x = .ref p ∧ y = .int i ∧ Sq K H p xs ∧ atI xs i = some v ∧ Q v H
theorem ix_both : IxR X (rIxB X.K) := by
  intro value slice pins s σ H x y v u Q I rx ry ⟨p, xs, i, z, e1, e2, hq, he, q⟩ hs
  rcases hq with hq | hq
  · exact ix_list value slice pins s σ H x y v u Q I rx ry ⟨p, xs, i, z, e1, e2, hq, he, q⟩ hs
  · exact ix_tup value slice pins s σ H x y v u Q I rx ry ⟨p, xs, i, z, e1, e2, hq, he, q⟩ hs
end
/-- f(e, .., k = v): the keyword-only parameter is named -/
theorem kbn1 {K : PySem.W.Frag} {x qual : Str} {params : Arguments} {body : List Stmt} {scope : Scope} {kws : List (Str × V)} {f : Addr} {fd : FuncData} {ps : List Str} {k : Str} (F : FunD K x qual params body scope [] kws f fd) (n : Nat)
    (h : ∀ (kV doc pm : Value) (an : Option Addr) (cdv ct : Value) (us : List Value) (w : Value), us.length = n → bindArgs (PySem.W.fnOf x qual params body scope .none kV doc pm an cdv ct) ⟨us, [(k, w)]⟩ = pure (ps.zip (us ++ [w]))) :
    KBn K fd ps n [k] (fun us ws => us ++ ws) (fun vs zs => vs ++ zs) := by
  obtain ⟨oc, od, dV, kV, doc, pm, an, cdv, ct, osl, rfl, lk, hcd, hD, hK⟩ := F.ex
  rcases hD with ⟨_, rfl⟩ | ⟨e, _⟩
  · refine ⟨fun s us ws X l1 l2 => ?_, fun r1 r2 => r1.append r2⟩
    match ws, l2 with
    | [w], _ => exact .of_eq (h kV doc pm an cdv ct us w l1)
  · exact absurd rfl e
end GB

/-! tuple * int, also of the empty tuple -/
namespace GT0
open PySem PySem.Spec PyProof.Rows L2
theorem tuple_mul0 (l : Addr) (n : Nat) (sl : Array (Option Value)) (dd : Option Addr) (x : Int) (u : Tok) (c0 : (decide (x < -(2 ^ 63)) || decide (x ≥ 2 ^ 63)) = false) :
    Meets (Builtin.«tuple.__mul__» ⟨[.ref l, .int x u], []⟩) (fun _ R s => s.heap.get? l = some { cls := .type "tuple", dict := dd, data := .seq #[] n, slots := sl } ∧ R (.ok (.ret (.ref l))) s) :=
  .of_wp fun prog w A R s h => by
    obtain ⟨hp, g, d, tk, os⟩ := s
    obtain ⟨hl, h⟩ := h
    have f1 := AutoSeq1.idx_int
    wp_walk using wpAny_loadPart' hl
    repeat (first
      | (refine wpAny_ite_false (decide_eq_false (by rw [c0]; exact Bool.false_ne_true)) ?_; wp_walk using wpAny_loadPart' hl))
    exact ⟨_, rfl, h⟩
def rRep0 (K : PySem.W.Frag) : R2 := fun x y H Q => ∃ l k, x = .ref l ∧ y = .int k ∧ SqT K H l [] ∧ 2 ≤ k ∧ k ≤ 1000 ∧ Q (.ref l) H
section
variable {X : Cx}
theorem op_rep0 : OpR X (binaryOp .Mult) (rRep0 X.K) := by
  intro pins s σ H x y v u Q I rx ry h
  obtain ⟨l, k, rfl, rfl, hT, h1, h2, q⟩ := h
  cases rx
  obtain ⟨t, rfl⟩ := ry
  obtain ⟨its, r, ⟨⟨cls, dd, data, sl⟩, ho, hc, n, hd⟩, hs⟩ := I.tuple hT
  simp only at hc hd
  subst hc hd
  cases r
  have c0 : (decide (k < -(2 ^ 63)) || decide (k ≥ 2 ^ 63)) = false := by
    rw [decide_eq_false (by omega), decide_eq_false (by omega)] <;> rfl
  exact wpAny_binaryOp_repeat_ref (T := "tuple") (U := "int") (by decide) ⟨_, ho, rfl⟩ (fun s' => typeIs_int s' k t) noFill_tuple_mul F.fills_int_mul F.slot_int_rmul repeat_tuple F.slot_int_index.lookup
    (call_meets F.slot_int_rmul (typeIs_int s k t) F.entry_int_rmul (F.args_int_rmul_2 _ _) (int_rmul_tuple k t l #[] n dd sl)
      ⟨ho, rfl, ⟨_, ho, rfl⟩, call_meets F.slot_tuple_mul ⟨_, ho, rfl⟩ F.entry_tuple_mul (F.args_tuple_mul_2 _ _) (tuple_mul0 l n sl dd k t c0) ⟨ho, .ref l, H, I, rfl, q⟩⟩)
theorem op_repA : OpR X (binaryOp .Mult) (fun x y H Q => rRepT X.K x y H Q ∨ rRep0 X.K x y H Q) := op_repT.or op_rep0
end
end GT0

set_option pp.maxSteps 900
/-! orders: the half-cycles and the wear of an order -/
namespace H8W
open PySem PySem.Spec PyProof.Rows L2 KA KD KL PH PM PA PB PC RM RN RS QE QF QG QH K20 K52b UJN VQ
open XT hiding pairs_get
open K9 (Cn cn_one)
abbrev sWO : Stmt := topS 19
abbrev sHC : Stmt := topS 20
theorem scHC : FnScope ["pieces", "order", "closed", "load", "place", "reading"] ["pieces", "order", "closed"] (defScope sHC) := ⟨rfl, rfl, rfl, by decide +kernel, rfl, by decide +kernel, by decide +kernel⟩
theorem scWO : FnScope ["pieces", "order", "table", "closed"] ["pieces", "order", "table", "closed"] (defScope sWO) := ⟨rfl, rfl, rfl, by decide +kernel, rfl, by decide +kernel, by decide +kernel⟩
/-- loads stand, lists or tuples -/
def PcsAt (K : PySem.W.Frag) (H : Hp) : List V → List (List Int) → Prop
  | [], [] => True
  | x :: xs, t :: ts => (∃ a, x = .ref a ∧ Sq K H a (t.map V.int)) ∧ PcsAt K H xs ts
  | _, _ => False
theorem PcsAt.same {K : PySem.W.Frag} {H H' : Hp} (s : Same H H') : ∀ {xs : List V} {ts : List (List Int)}, PcsAt K H xs ts → PcsAt K H' xs ts
  | [], [], _ => trivial
  | _ :: _, _ :: _, ⟨⟨a, e, h⟩, r⟩ => ⟨⟨a, e, h.same s⟩, r.same s⟩
  | [], _ :: _, h => h.elim
  | _ :: _, [], h => h.elim
theorem PcsAt.length {K : PySem.W.Frag} {H : Hp} : ∀ {xs : List V} {ts : List (List Int)}, PcsAt K H xs ts → xs.length = ts.length
  | [], [], _ => rfl
  | _ :: _, _ :: _, ⟨_, r⟩ => congrArg (· + 1) r.length
  | [], _ :: _, h => h.elim
  | _ :: _, [], h => h.elim
theorem PcsAt.get {K : PySem.W.Frag} {H : Hp} : ∀ {xs : List V} {ts : List (List Int)}, PcsAt K H xs ts → ∀ {j : Nat} {t : List Int}, ts[j]? = some t → ∃ a, xs[j]? = some (.ref a) ∧ Sq K H a (t.map V.int)
  | x :: xs, t :: ts, ⟨⟨a, e, h⟩, r⟩, 0, u, hu => ⟨a, by rw [e]; rfl, by rw [← Option.some.inj hu]; exact h⟩
  | x :: xs, t :: ts, ⟨_, r⟩, j + 1, u, hu => PcsAt.get r (j := j) hu
  | [], [], _, _, _, hu => by cases hu
  | [], _ :: _, h, _, _, _ => h.elim
  | _ :: _, [], h, _, _, _ => h.elim
theorem PcsAt.snoc {K : PySem.W.Frag} {H : Hp} {a : Addr} {t : List Int} (h2 : Sq K H a (t.map V.int)) : ∀ {xs : List V} {ts : List (List Int)}, PcsAt K H xs ts → PcsAt K H (xs ++ [.ref a]) (ts ++ [t])
  | [], [], _ => ⟨⟨a, rfl, h2⟩, trivial⟩
  | _ :: _, _ :: _, ⟨h, r⟩ => ⟨h, r.snoc h2⟩
  | [], _ :: _, h => h.elim
  | _ :: _, [], h => h.elim
/-- the load of an order -/
def lod (ps : List (List Int)) (js : List Nat) : List Int := (js.map fun j => (ps[j]?).getD []).flatten
theorem lod_take {ps : List (List Int)} {js : List Nat} {i j : Nat} {t : List Int} (h : js[i]? = some j) (ht : ps[j]? = some t) : lod ps (js.take (i + 1)) = lod ps (js.take i) ++ t := by
  unfold lod
  rw [List.take_add_one, h]
  simp [ht]
theorem lod_le (ps : List (List Int)) (js : List Nat) (i : Nat) : (lod ps (js.take i)).length ≤ (lod ps js).length := by
  unfold lod
  have : (js.map fun j => (ps[j]?).getD []).flatten = ((js.take i).map fun j => (ps[j]?).getD []).flatten ++ ((js.drop i).map fun j => (ps[j]?).getD []).flatten := by
    rw [← List.flatten_append, ← List.map_append, List.take_append_drop]
  rw [this, List.length_append]
  omega
/-- the half-cycles of a load, once or round -/
def Halv (ld : List Int) (b : Bool) (es : List (Int × Int)) : Prop := match b with
  | false => ∃ ds rs, Cn ld ds rs ∧ es.Perm (ds ++ ds ++ sw rs)
  | true => ∃ cl, Cl ld cl ∧ es = cl ++ cl
section
variable {P : Program} {w : World} {K : PySem.W.Frag} {mg : Str → Option Value} {base : Heap} {C : Addr}
def spHC (K : PySem.W.Frag) : Sp := fun vs H Q _ => ∃ (p o : Addr) (xs : List V) (ps : List (List Int)) (js : List Nat) (b : Bool), vs = [.ref p, .ref o, .bl b] ∧ Sq K H p xs ∧ PcsAt K H xs ps ∧ H o = some (.tup (js.map fun j => V.int (j : Nat))) ∧ (∀ j ∈ js, j < ps.length) ∧ (lod ps js).length ≤ 400 ∧
  ∀ H' t ys es, Same H H' → H' t = some (.tup ys) → PairsAt H' ys es → Halv (lod ps js) b es → es.length ≤ 2000 → Q (.ref t) H'
theorem ok_HC {pO p3 f fCC fOF fPH : Addr} {fd dCC dOF dPH : FuncData} {k : Nat} (F : Fun K "_half_cycles" "_half_cycles" sHC f fd)
    (GCC : FnOk P w K mg base CX0 k fCC dCC ["load"] (spCC K)) (gCC : mg "closed_cycles" = some (.ref fCC)) (kCC : PySem.W.keepIn K (.ref fCC) = true) (bCC : Binds K dCC ["load"] [])
    (gC : mg "Count" = some (.ref C)) (rd : ClX.CRead K C (.type "type")) (cm : ClX.CMet K C (.type "type") "of" pO fOF) (GOF : FnOk P w K mg base CX0 k fOF dOF ["cls", "load"] (spOf K C)) (bOF : Binds K dOF ["cls", "load"] [])
    (cn : Cnt K C) (prH : PropOf K C "half_cycles" p3 fPH) (k0 : Nat) (ek : k = k0 + 1) (GPH : FnOk P w K mg base CX0 k0 fPH dPH ["self"] (spPH C)) (bPH : Binds K dPH ["self"] []) :
    FnOk P w K mg base CX0 (k + 1) f fd ["pieces", "order", "closed"] (spHC K) := by
  subst ek
  refine F.ok scHC (fun vs H Q E h => ?_) (fun cdv A outer s H vs Q E hr h => ?_)
  · obtain ⟨p, o, xs, ps, js, b, rfl, _⟩ := h
    rfl
  · obtain ⟨p, o, xs, ps, js, b, rfl, hp, pc, ho, hj, hl, hq⟩ := h
    refine ⟨_, (pss_cons (ps_setLc2 (i := 3) (own := [("place", 4), ("reading", 5)]) (vs1 := [5]) (g := gName 4) (g1 := gName 5) (wi1 := GB.iBoth K (tOp (GB.rIxB K) (tVar 0) (tVar 4))) (te := tVar 5) rfl scHC.nd rfl rfl (sw_true rfl rfl rfl (by decide +kernel)) (pi_tup (pv 1))
          (blkOk_by (own := [("place", 4), ("reading", 5)]) (N := ["pieces", "order", "closed", "load", "place", "reading"]) (sc := defScope sHC) (by decide +kernel)) (by decide)
          (fun _ _ _ _ _ => pg_name (i := 4) scHC.nd rfl (Or.inl rfl) (Or.inr rfl)) (fun _ _ _ _ _ => pts_nil)
          (fun _ _ _ _ _ => GB.pi_both (pe_ix GB.ix_both (pv 0) (pv 4) (fun _ _ => rfl)))
          (fun _ _ _ _ _ => pg_name (i := 5) scHC.nd rfl (Or.inl rfl) (Or.inr rfl)) (fun _ _ _ _ _ => pts_nil) (fun _ _ _ _ _ => pv 5))
      (pss_cons (ps_if (pt_val (pv 2)) (pss_one (ps_ret (pe_op GT0.op_repA (pe_call GCC hr (by rfl) gCC kCC bCC .nil pass0 (pa_cons (pv 3) pa_nil)) pe_int))) pss_nil)
      (pss_one (ps_ret (pe_prop (ClX.pe_cmeth (pe_glob (v := .ref C) (by rfl) gC rfl) rd cm (GOF.raw bOF .nil) hr pass0 (pa_cons (pv 3) pa_nil)) cn.cl prH GPH hr bPH .nil pass0 (by rfl)))))), ?_⟩
    have pl := pc.length
    refine ⟨.ref o, rfl, o, rfl, ⟨_, SqT.of ho⟩, fun D nD => ?_⟩
    refine lc_any (walk_tup (K := K) (a := o) (xs := js.map fun j => V.int (j : Nat))) (fun i Hx => Same H Hx ∧ Hx D = some (.lst ((lod ps (js.take i)).map V.int))) ⟨same_new nD, upd_same⟩ (fun i Hx _ g => SqT.of (g.1 _ _ ho)) ?_ ?_
    · rintro i x H9 Hx hi ⟨sm, eD⟩ ⟨rfl, hx⟩
      obtain ⟨j, hji, rfl⟩ : ∃ j, js[i]? = some j ∧ x = V.int (j : Nat) := by
        rw [List.getElem?_map] at hx
        cases e : js[i]? with
        | none => rw [e] at hx; cases hx
        | some j => rw [e] at hx; exact ⟨j, rfl, (Option.some.inj hx).symm⟩
      have jl := hj j (List.mem_of_getElem? hji)
      obtain ⟨t, ht⟩ : ∃ t, ps[j]? = some t := ⟨_, List.getElem?_eq_getElem jl⟩
      obtain ⟨a, hxa, hsa⟩ := pc.get ht
      have le := lod_le ps js (i + 1)
      rw [lod_take hji ht, List.length_append] at le
      refine ⟨rfl, iteT (B := True) ?_⟩
      have body : ∀ (jt : Nat) (y : V) (Hy : Hp), (Same H Hy ∧ Hy D = some (.lst ((lod ps (js.take i) ++ t.take jt).map V.int))) → (t.map V.int)[jt]? = some y → ∃ r, y = V.int r ∧ ((lod ps (js.take i) ++ t.take jt).map V.int).length < sizeLine ∧ (Same H (upd Hy D (.lst ((lod ps (js.take i) ++ t.take jt).map V.int ++ [V.int r]))) ∧ (upd Hy D (.lst ((lod ps (js.take i) ++ t.take jt).map V.int ++ [V.int r]))) D = some (.lst ((lod ps (js.take i) ++ t.take (jt + 1)).map V.int))) := fun jt y Hy g hy => by
        obtain ⟨r, h2, rfl⟩ := int_at hy
        refine ⟨r, rfl, ?_, same_again nD g.1, ?_⟩
        · rw [List.length_map, List.length_append, List.length_take]
          exact small3000 (by omega)
        · rw [upd_same, List.take_add_one, h2]
          simp
      refine ⟨.ref p, rfl, .int (j : Nat), rfl, p, xs, (j : Nat), .ref a, rfl, rfl, hp.same sm, atI_nat hxa, a, rfl, ?_⟩
      rcases hsa with sa | sa
      · refine .inl ⟨⟨_, sm.seq sa⟩, ?_⟩
        refine lc_any (walk_list (K := K) (a := a) (xs := t.map V.int)) (fun jt Hy => Same H Hy ∧ Hy D = some (.lst ((lod ps (js.take i) ++ t.take jt).map V.int))) ⟨sm, by rw [List.take_zero, List.append_nil]; exact eD⟩ (fun jt Hy _ g => g.1.seq sa) ?_ ?_
        · rintro jt y H9 Hy hjt g ⟨rfl, hy⟩
          obtain ⟨r, rfl, hz, g2⟩ := body jt y Hy g hy
          exact ⟨rfl, iteT (B := True) ⟨.int r, rfl, _, g.2, hz, g2⟩⟩
        · rintro Hy ⟨s2, e2⟩
          refine ⟨s2, ?_⟩
          rw [List.length_map, List.take_length] at e2
          rw [e2, lod_take hji ht]
      · refine .inr ⟨⟨_, SqT_same sm sa⟩, ?_⟩
        refine lc_any (walk_tup (K := K) (a := a) (xs := t.map V.int)) (fun jt Hy => Same H Hy ∧ Hy D = some (.lst ((lod ps (js.take i) ++ t.take jt).map V.int))) ⟨sm, by rw [List.take_zero, List.append_nil]; exact eD⟩ (fun jt Hy _ g => SqT_same g.1 sa) ?_ ?_
        · rintro jt y H9 Hy hjt g ⟨rfl, hy⟩
          obtain ⟨r, rfl, hz, g2⟩ := body jt y Hy g hy
          exact ⟨rfl, iteT (B := True) ⟨.int r, rfl, _, g.2, hz, g2⟩⟩
        · rintro Hy ⟨s2, e2⟩
          refine ⟨s2, ?_⟩
          rw [List.length_map, List.take_length] at e2
          rw [e2, lod_take hji ht]
    · rintro H1 ⟨s1, eD⟩
      rw [List.length_map, List.take_length] at eD
      refine ⟨.bl b, rfl, b, rfl, ?_⟩
      cases b with
      | true =>
        refine iteT ⟨.ref D, rfl, D, _, rfl, .inl (SqL.of eD), by omega, fun H2 t ys cl s2 ht pa hcl hcn => ?_⟩
        have yl := pa.length
        by_cases he : ys = []
        · subst he
          have : cl = [] := List.length_eq_zero_iff.mp yl.symm
          subst this
          exact .inr ⟨t, 2, rfl, rfl, SqT.of ht, by decide, by decide, hq _ t [] [] (s1.trans s2) ht trivial ⟨[], hcl, rfl⟩ (Nat.zero_le _)⟩
        · refine .inl ⟨t, 2, ys, rfl, rfl, SqT.of ht, he, by decide, by decide, by omega, fun q nq => ?_⟩
          have e2 : (List.replicate (2 : Int).toNat ys).flatten = ys ++ ys := by
            show ys ++ (ys ++ []) = _
            rw [List.append_nil]
          rw [e2]
          have sq := same_new (o := .tup (ys ++ ys)) nq
          exact hq _ q (ys ++ ys) (cl ++ cl) (s1.trans (s2.trans sq)) upd_same ((pa.same sq).append (pa.same sq)) ⟨cl, hcl, rfl⟩ (by rw [List.length_append]; omega)
      | false =>
        refine iteF ⟨rfl, .ref D, rfl, D, _, rfl, .inl (SqL.of eD), by omega, fun H2 x cs ds rs s2 nx ca run nf perm srt => ?_⟩
        have cn2 : Cn (lod ps js) ds rs := ⟨⟨cs, run, perm⟩, nf, srt⟩
        have rl := run.len
        have tl := tp_len (lod ps js)
        have dl := perm.length_eq
        obtain ⟨dx, t1, t2, _, hx, _⟩ := id ca
        refine ⟨x, dx, _, rfl, hx, x, ds, rs, rfl, ca, by omega, by omega, run.zz (tp_zz _), fun H3 t ys es s3 ht pa pm st => ?_⟩
        refine hq _ t ys es (s1.trans (s2.trans s3)) ht pa ⟨ds, rs, cn2, pm⟩ ?_
        rw [pm.length_eq]
        simp only [List.length_append, sw_len]
        omega
def spWO (K : PySem.W.Frag) (CT : Addr) : Sp := fun vs H Q _ => ∃ (p o tb : Addr) (xs : List V) (ps : List (List Int)) (js : List Nat) (T : List Ent) (b : Bool), vs = [.ref p, .ref o, .ref tb, .bl b] ∧ Sq K H p xs ∧ PcsAt K H xs ps ∧ H o = some (.tup (js.map fun j => V.int (j : Nat))) ∧ (∀ j ∈ js, j < ps.length) ∧ (lod ps js).length ≤ 400 ∧ TabAt H CT tb T ∧ T.length ≤ 500 ∧
  ∀ H' es, Same H H' → Halv (lod ps js) b es → Q (.int (wear T es)) H'
theorem ok_WO {CT f fHC fUW : Addr} {fd dHC dUW : FuncData} {k : Nat} {kws : List (Str × V)} (F : FunD K "wear_of" "wear_of" (defArgs sWO) (defBody sWO) (defScope sWO) [] kws f fd)
    (GHC : FnOk P w K mg base CX0 k fHC dHC ["pieces", "order", "closed"] (spHC K)) (gHC : mg "_half_cycles" = some (.ref fHC)) (kHC : PySem.W.keepIn K (.ref fHC) = true) (bHC : Binds K dHC ["pieces", "order", "closed"] [])
    (Tt : Tbl K CT) (mUW : Meth K CT "wear" fUW) (k0 : Nat) (ek : k = k0 + 1) (GUW : FnOk P w K mg base CX0 k0 fUW dUW ["self", "ranges"] (spTWt K CT)) (bUW : Binds K dUW ["self", "ranges"] []) :
    FnOk P w K mg base CX0 (k + 1) f fd ["pieces", "order", "table", "closed"] (spWO K CT) := by
  subst ek
  refine F.ok scWO (fun vs H Q E h => ?_) (fun cdv A outer s H vs Q E hr h => ?_)
  · obtain ⟨p, o, tb, xs, ps, js, T, b, rfl, _⟩ := h
    rfl
  · obtain ⟨p, o, tb, xs, ps, js, T, b, rfl, hp, pc, ho, hj, hl, tab, tl, hq⟩ := h
    refine ⟨_, pss_one (ps_ret (pe_meth (pv 2) Tt.cl mUW GUW (hr.mono (by omega)) bUW .nil pass0 (pa_cons (pe_call GHC hr (by rfl) gHC kHC bHC .nil pass0 (pa_cons (pv 0) (pa_cons (pv 1) (pa_cons (pv 3) pa_nil)))) pa_nil))), ?_⟩
    obtain ⟨dx, t, ys, hx, _⟩ := id tab
    refine ⟨.ref tb, rfl, tb, dx, _, rfl, hx, rfl, .ref p, rfl, .ref o, rfl, .bl b, rfl, p, o, xs, ps, js, b, rfl, hp, pc, ho, hj, hl, fun H2 t2 ys2 es s2 ht pa hv le => ?_⟩
    exact ⟨tb, t2, T, ys2, es, rfl, tab.same s2, tl, SqT.of ht, pa, by omega, fun H3 s3 => hq _ es (s2.trans s3) hv⟩
end
end H8W

/-! drawn entries -/
namespace XU
open PySem PySem.Spec PyProof.Rows L2 KA KD KL PH PM PA PB PC RM RN QE QF QG QH K52b XT
abbrev sIv : Stmt := topS 34
abbrev sEn : Stmt := topS 35
theorem scIv : FnScope ["feed", "most", "low"] ["feed", "most"] (defScope sIv) := ⟨rfl, rfl, rfl, by decide +kernel, rfl, by decide +kernel, by decide +kernel⟩
theorem scEn : FnScope ["feed", "most", "found", "turn", "low", "high"] ["feed", "most"] (defScope sEn) := ⟨rfl, rfl, rfl, by decide +kernel, rfl, by decide +kernel, by decide +kernel⟩
theorem cutv_to (xs : List V) (j : Nat) : cutV xs none (some (j : Int)) = xs.take j := by
  unfold cutV
  rw [HT.sIx_nat xs.length xs.length j, HT.sIx_none]
  rw [List.drop_zero, Nat.sub_zero]
  by_cases h : j ≤ xs.length
  · rw [Nat.min_eq_left h]
  · rw [Nat.min_eq_right (by omega), List.take_length, List.take_of_length_le (by omega)]
theorem cutv_from (xs : List V) (j : Nat) : cutV xs (some (j : Int)) none = xs.drop j := by
  unfold cutV
  rw [HT.sIx_nat xs.length 0 j, HT.sIx_none]
  by_cases h : j ≤ xs.length
  · rw [Nat.min_eq_left h, List.take_of_length_le (by rw [List.length_drop]; exact Nat.le_refl _)]
  · rw [Nat.min_eq_right (by omega), Nat.sub_self, List.take_zero, List.drop_of_length_le (by omega)]
theorem fe_lst {H : Hp} {f : Addr} (fe : FeedAt H f) : ∃ acc, H f = some (.lst acc) := by
  obtain ⟨d, st, _, _, _, e⟩ := fe
  exact ⟨_, e⟩
theorem ch_tup {f t : Addr} {H H' : Hp} {xs : List V} (c : Ch f H H') (fe : FeedAt H f) (h : H t = some (.tup xs)) : H' t = some (.tup xs) := by
  refine c _ _ (fun z => ?_) h
  obtain ⟨acc, e⟩ := fe_lst fe
  rw [z, e] at h
  cases h
/-! data of entries -/
def dTrips (es : List Ent) : List PyData := es.map fun e => .tuple [.int e.1, .int e.2.1, .int e.2.2]
theorem dp_trips {K : PySem.W.Frag} {H : Hp} : ∀ {xs : List V} {es : List Ent}, TripsAt H xs es → DpAll K H xs (dTrips es)
  | [], [], _ => .nil
  | x :: xs, e :: es, ⟨⟨p, h1, h2⟩, h3⟩ => by
    subst h1
    exact .cons (.tup (SqT.of h2) (.cons (.int _) (.cons (.int _) (.cons (.int _) .nil)))) (dp_trips h3)
  | [], _ :: _, h => h.elim
  | _ :: _, [], h => h.elim
theorem lay_trips : ∀ es : List Ent, PyData.canLayAll0 (dTrips es) = true
  | [] => rfl
  | e :: es => by
    show (PyData.canLay0 (.tuple [.int e.1, .int e.2.1, .int e.2.2]) && PyData.canLayAll0 (dTrips es)) = true
    rw [lay_trips es]
    simp only [PyData.canLay0, PyData.canLayAll0, Bool.and_true]
theorem depth_trips : ∀ es : List Ent, PyData.depthAll (dTrips es) ≤ 3
  | [] => Nat.zero_le _
  | e :: es => by
    have h := depth_trips es
    show max (PyData.depth (.tuple [.int e.1, .int e.2.1, .int e.2.2])) (PyData.depthAll (dTrips es)) ≤ 3
    simp only [PyData.depth, PyData.depthAll]
    omega
theorem shaped_trips (es : List Ent) : SeqAt.shaped (.list (dTrips es)) = true :=
  shaped_of (by simp only [PyData.canLay0, lay_trips]) (by have := depth_trips es; simp only [PyData.depth]; omega)
theorem ev_trips (es : List Ent) : PyData.eqv (.list (dTrips es)) (.list (dInts [])) = decide (es = []) := by
  cases es with
  | nil => rfl
  | cons e es => rfl
section
variable {P : Program} {w : World} {K : PySem.W.Frag} {mg : Str → Option Value} {base : Heap}
def spIv : Sp := fun vs H Q _ => ∃ (f : Addr) (m : Int), vs = [.ref f, .int m] ∧ 0 < m ∧ m ≤ 1000 ∧ FeedAt H f ∧ ∀ H' p lo hi, Ch f H H' → FeedAt H' f → H p = none → H' p = some (.tup [.int lo, .int hi]) → lo < hi → 0 ≤ lo → hi ≤ m → Q (.ref p) H'
theorem ok_iv {f0 fT : Addr} {fd dT : FuncData} {k : Nat} (F : Fun K "_law_interval" "_law_interval" sIv f0 fd) (GT : FnOk P w K mg base CX0 (k + 1) fT dT ["feed", "many"] spTake) (gT : mg "_law_take" = some (.ref fT)) (kT : PySem.W.keepIn K (.ref fT) = true) (bT : Binds K dT ["feed", "many"] []) :
    FnOk P w K mg base CX0 (k + 2) f0 fd ["feed", "most"] spIv := by
  refine F.ok scIv (fun vs H Q E h => ?_) (fun cdv A outer s H vs Q E hr h => ?_)
  · obtain ⟨f, m, rfl, _⟩ := h
    rfl
  · obtain ⟨f, m, rfl, m0, m1, fe, hq⟩ := h
    refine ⟨_, pss_cons (ps_set (i := 2) scIv.nd rfl (.inl rfl) (pe_call GT hr (by rfl) gT kT bT .nil pass0 (pa_cons (pv 0) (pa_cons (pv 1) pa_nil))))
      (pss_one (ps_ret (pe_tup (pa_cons (pv 2) (pa_cons (pe_op op_add (pe_op op_add (pv 2) pe_int) (pe_call GT hr (by rfl) gT kT bT .nil pass0 (pa_cons (pv 0) (pa_cons (pe_op op_sub (pv 1) (pv 2)) pa_nil)))) pa_nil))))), ?_⟩
    refine ⟨.ref f, rfl, .int m, rfl, f, m, rfl, m0, by omega, fe, fun H1 x c1 fe1 g0 g1 => ?_⟩
    refine ⟨.int x, rfl, .int x, rfl, x, 1, rfl, rfl, .ref f, rfl, .int m, rfl, .int x, rfl, m, x, rfl, rfl, f, m - x, rfl, by omega, by omega, fe1, fun H2 y c2 fe2 g2 g3 => ?_⟩
    refine ⟨x + 1, y, rfl, rfl, by show 2 ≤ sizeLine; decide, fun p np => ?_⟩
    have sp := same_new (o := .tup [.int x, .int (x + 1 + y)]) np
    have c := c1.trans c2
    exact hq _ p x (x + 1 + y) (c.trans (Ch.of_same sp)) (fe2.same sp) (c.free (fe2.ne np) np) upd_same (by omega) (by omega) (by omega)
def Bnd (es : List Ent) : Prop := ∀ e ∈ es, 0 ≤ e.1 ∧ e.2.1 ≤ 1000 ∧ e.2.2 ≤ 1000000
theorem Bnd.app {es : List Ent} (h : Bnd es) {e : Ent} (g : 0 ≤ e.1 ∧ e.2.1 ≤ 1000 ∧ e.2.2 ≤ 1000000) : Bnd (es ++ [e]) := fun x hx => (List.mem_append.mp hx).elim (h x) fun z => by rw [List.mem_singleton.mp z]; exact g
def spEn (K : PySem.W.Frag) : Sp := fun vs H Q _ => ∃ (f : Addr) (m : Int), vs = [.ref f, .int m] ∧ 0 < m ∧ m ≤ 1000 ∧ FeedAt H f ∧ ∀ H' c xs es, Ch f H H' → FeedAt H' f → H' c = some (.lst xs) → c ≠ f → H c = none → TripsAt H' xs es → Good es → Bnd es → es.length ≤ 6 → Q (.ref c) H'
/-- what the loop keeps -/
structure En (H : Hp) (f c : Addr) (xs : List V) (es : List Ent) (Hz : Hp) : Prop where
  ch : Ch f H Hz
  fe : FeedAt Hz f
  hc : Hz c = some (.lst xs)
  tr : TripsAt Hz xs es
  g : Good es
  b : Bnd es
theorem En.go {H : Hp} {f c : Addr} {xs : List V} {es : List Ent} {H1 H2 : Hp} (g : En H f c xs es H1) (n : c ≠ f) (k : Ch f H1 H2) (fe : FeedAt H2 f) : En H f c xs es H2 :=
  ⟨g.ch.trans k, fe, k _ _ n g.hc, g.tr.ch k (fe_lst g.fe), g.g, g.b⟩
theorem En.same {H : Hp} {f c : Addr} {xs : List V} {es : List Ent} {H1 H2 : Hp} (g : En H f c xs es H1) (n : c ≠ f) (s : Same H1 H2) : En H f c xs es H2 := g.go n (Ch.of_same s) (g.fe.same s)
theorem ok_en {f0 fT fI fP : Addr} {fd dT dI dP : FuncData} {k : Nat} (F : Fun K "_law_entries" "_law_entries" sEn f0 fd) (GT : FnOk P w K mg base CX0 (k + 1) fT dT ["feed", "many"] spTake) (gT : mg "_law_take" = some (.ref fT)) (kT : PySem.W.keepIn K (.ref fT) = true) (bT : Binds K dT ["feed", "many"] [])
    (GI : FnOk P w K mg base CX0 (k + 2) fI dI ["feed", "most"] spIv) (gI : mg "_law_interval" = some (.ref fI)) (kI : PySem.W.keepIn K (.ref fI) = true) (bI : Binds K dI ["feed", "most"] [])
    (GP : FnOk P w K mg base CX0 (k + 2) fP dP ["feed", "some"] (spPick K)) (gP : mg "_law_pick" = some (.ref fP)) (kP : PySem.W.keepIn K (.ref fP) = true) (bP : Binds K dP ["feed", "some"] []) (mr : mg "range" = none) :
    FnOk P w K mg base CX0 (k + 3) f0 fd ["feed", "most"] (spEn K) := by
  refine F.ok scEn (fun vs H Q E h => ?_) (fun cdv A outer s H vs Q E hr h => ?_)
  · obtain ⟨f, m, rfl, _⟩ := h
    rfl
  · obtain ⟨f, m, rfl, m0, m1, fe, hq⟩ := h
    have h1 := hr.mono (show k + 1 ≤ k + 2 by omega)
    refine ⟨_, pss_cons (ps_set (i := 2) scEn.nd rfl (.inl rfl) (pe_lst pa_nil))
      (pss_cons (ps_for PassesOwn.never rfl (pi_range1 rfl mr (pa_cons (pe_call GT h1 (by rfl) gT kT bT .nil pass0 (pa_cons (pv 0) (pa_cons pe_int pa_nil))) pa_nil)) (pg_name (i := 3) scEn.nd rfl (.inl rfl))
        (pss_cons (ps_asg (pe_call GI hr (by rfl) gI kI bI .nil pass0 (pa_cons (pv 0) (pa_cons (pv 1) pa_nil))) (pg_tup rfl (pgs_cons (pg_name (i := 4) scEn.nd rfl (.inl rfl)) (pgs_cons (pg_name (i := 5) scEn.nd rfl (.inl rfl)) pgs_nil))))
        (pss_cons (ps_if (PW.pt (pw_and (pt_cmpR (op_neD hr.units) (pv 2) (pe_lst pa_nil) (nomark _)) (pw_and1 (pt_cmpR op_eq (pe_call GT h1 (by rfl) gT kT bT .nil pass0 (pa_cons (pv 0) (pa_cons pe_int pa_nil))) pe_int (nomark _)))))
          (pss_one (ps_asg (pe_slice sl_tup (pe_ix ix_list (pv 2) (pe_un un_neg pe_int) (fun _ _ => rfl)) po_none (po_some pe_int)) (pg_tup rfl (pgs_cons (pg_name (i := 4) scEn.nd rfl (.inl rfl)) (pgs_cons (pg_name (i := 5) scEn.nd rfl (.inl rfl)) pgs_nil))))) pss_nil)
        (pss_one (ps_expr (pe_bm PySem.F.plainAttrs_list PySem.F.slot_list_append PySem.F.type_list_append mt_append (pv 2) (pa_cons (pe_tup (pa_cons (pv 4) (pa_cons (pv 5) (pa_cons (pe_call GP hr (by rfl) gP kP bP .nil pass0 (pa_cons (pv 0) (pa_cons (pe_lst (pa_cons pe_int (pa_cons pe_int (pa_cons pe_int (pa_cons pe_int (pa_cons (pe_op op_pow pe_int pe_int) (pa_cons (pe_call GT h1 (by rfl) gT kT bT .nil pass0 (pa_cons (pv 0) (pa_cons pe_int pa_nil))) pa_nil))))))) pa_nil))) pa_nil)))) pa_nil)))))))
      (pss_one (ps_ret (pv 2)))), ?_⟩
    refine ⟨Nat.zero_le _, fun c nc => ?_⟩
    have sc := same_new (o := .lst []) nc
    have ncf := fe.ne nc
    have ec := upd_same (H := H) (a := c) (o := .lst [])
    have g0 : En H f c [] [] (upd H c (.lst [])) := ⟨Ch.of_same sc, fe.same sc, ec, trivial, fun e he => (List.not_mem_nil he).elim, fun e he => (List.not_mem_nil he).elim⟩
    generalize upd H c (.lst []) = H0 at g0 ⊢
    clear sc ec
    refine ⟨.ref f, rfl, f, 7, rfl, by decide, by decide, g0.fe, fun H1 n c1 fe1 n0 n7 => ?_⟩
    have g1 := g0.go ncf c1 fe1
    refine ⟨n, rfl, by omega, by omega, for_range (lo := 0) (n := n.toNat) (fun i σ Hz => ∃ xs es, En H f c xs es Hz ∧ es.length = i ∧ ∃ r3 r4 r5 : Option V, σ = [some (.ref f), some (.int m), some (.ref c), r3, r4, r5]) ⟨[], [], g1, rfl, none, none, none, rfl⟩ ?_ ?_⟩
    · clear g0 g1 c1 fe1
      rintro i σ Hz hi ⟨xs, es, g, le, r3, r4, r5, rfl⟩
      have lx := g.tr.length
      refine ⟨.ref f, rfl, .int m, rfl, f, m, rfl, m0, m1, g.fe, fun H2 p lo hi c2 fe2 np ep lh l0 lm => ?_⟩
      have g2 := g.go ncf c2 fe2
      refine ⟨p, _, rfl, SqT.of ep, rfl, .int lo, [.int hi], rfl, .int hi, [], rfl, rfl, ?_⟩
      refine ⟨.ref c, rfl, Nat.zero_le _, fun e1 ne1 => ?_⟩
      have s3 := same_new (o := .lst []) ne1
      have g3 := g2.same ncf s3
      refine ⟨.list (dTrips es), .list (dInts []), .lst (SqL.of g3.hc) (dp_trips g3.tr), .lst (SqL.of upd_same) (dp_ints []), shaped_trips es, shaped_lst [], _, rfl, ?_⟩
      rw [ev_trips]
      generalize upd H2 e1 (.lst []) = H3 at g3 ⊢
      by_cases he : es = []
      · rw [decide_eq_true he]
        refine iteF (iteF ?_)
        refine ⟨.ref c, rfl, .inl ⟨rfl, _, SqL.of g3.hc⟩, .int lo, rfl, .int hi, rfl, .ref f, rfl, 10, 6, rfl, rfl, ⟨by decide, by decide, by decide⟩, .ref f, rfl, f, 50, rfl, by decide, by decide, g3.fe, fun H4 t c4 fe4 t0 t1 => ⟨by show 6 ≤ sizeLine; decide, fun l nl => ?_⟩⟩
        have g4 := g3.go ncf c4 fe4
        have sl := same_new (o := .lst [.int 0, .int 1, .int 2, .int 5, .int (10 ^ (6 : Int).toNat), .int t]) nl
        have g5 := g4.same ncf sl
        refine ⟨f, l, _, rfl, g4.fe.ne nl, SqL.of upd_same, by show 0 < 6; decide, by show 6 ≤ 1000; decide, g5.fe, fun H6 j v hv c6 fe6 => ?_⟩
        obtain ⟨am, rfl, a0, a1⟩ : ∃ am : Int, v = .int am ∧ 0 ≤ am ∧ am ≤ 1000000 := by
          match j, hv with
          | 0, hv => exact ⟨0, (Option.some.inj hv).symm, by decide, by decide⟩
          | 1, hv => exact ⟨1, (Option.some.inj hv).symm, by decide, by decide⟩
          | 2, hv => exact ⟨2, (Option.some.inj hv).symm, by decide, by decide⟩
          | 3, hv => exact ⟨5, (Option.some.inj hv).symm, by decide, by decide⟩
          | 4, hv => exact ⟨_, (Option.some.inj hv).symm, by decide, by decide⟩
          | 5, hv => exact ⟨t, (Option.some.inj hv).symm, t0, by omega⟩
          | n + 6, hv => simp at hv
        have g6 := g5.go ncf c6 fe6
        refine ⟨by show 3 ≤ sizeLine; decide, fun q nq => ?_⟩
        have sq := same_new (o := tri (lo, hi, am)) nq
        have g7 := g6.same ncf sq
        refine ⟨c, xs, _, rfl, rfl, g7.hc, Nat.lt_of_le_of_lt (show xs.length ≤ 3000 by omega) (by decide), ?_⟩
        exact ⟨xs ++ [.ref q], es ++ [(lo, hi, am)], ⟨Ch.again nc g7.ch, g7.fe.upd ncf, upd_same, (g7.tr.app (trips_one (e := (lo, hi, am)) upd_same)).but (fun b o n e => by rw [upd_ne n]; exact e) g7.hc, g.g.app (good_one ⟨lh, a0⟩), g.b.app (e := (lo, hi, am)) ⟨l0, show hi ≤ 1000 by omega, a1⟩⟩, by rw [List.length_append]; show es.length + 1 = _; omega, _, _, _, rfl⟩
      · rw [decide_eq_false he]
        refine iteT ⟨.ref f, rfl, f, 4, rfl, by decide, by decide, g3.fe, fun H5 t c5 fe5 t0 t4 => ⟨rfl, _, rfl, ?_⟩⟩
        have g8 := g3.go ncf c5 fe5
        refine ite2 (fun _ => ?_) (fun _ => ?_)
        · rcases List.eq_nil_or_concat xs with e | ⟨ys, v, e⟩
          · subst e
            exact absurd (List.length_eq_zero_iff.mp (show es.length = 0 by simpa using lx.symm)) he
          rw [List.concat_eq_append] at e
          obtain ⟨p2, en, rfl, ee, hp2⟩ := g8.tr.get (i := ys.length) (x := v) (by rw [e]; simp)
          have ge := g8.g en (List.mem_of_getElem? ee)
          have gb := g8.b en (List.mem_of_getElem? ee)
          refine ⟨.ref c, rfl, 1, rfl, c, _, -1, .ref p2, rfl, rfl, SqL.of g8.hc, by rw [e]; exact atI_last _ _, 2, rfl, p2, _, rfl, SqT.of hp2, (by show ¬(HT.sIx 3 0 none = 0 ∧ HT.sIx 3 3 (some 2) = 3); decide), fun p3 np3 => ?_⟩
          rw [show (some (2 : Int)) = some ((2 : Nat) : Int) from rfl, cutv_to]
          have s9 := same_new (o := .tup [.int en.1, .int en.2.1]) np3
          have g9 := g8.same ncf s9
          refine ⟨p3, [.int en.1, .int en.2.1], rfl, SqT.of upd_same, rfl, .int en.1, [.int en.2.1], rfl, .int en.2.1, [], rfl, rfl, ?_⟩
          refine ⟨.ref c, rfl, .inl ⟨rfl, _, SqL.of g9.hc⟩, .int en.1, rfl, .int en.2.1, rfl, .ref f, rfl, 10, 6, rfl, rfl, ⟨by decide, by decide, by decide⟩, .ref f, rfl, f, 50, rfl, by decide, by decide, g9.fe, fun H4 t c4 fe4 t0 t1 => ⟨by show 6 ≤ sizeLine; decide, fun l nl => ?_⟩⟩
          have g4 := g9.go ncf c4 fe4
          have sl := same_new (o := .lst [.int 0, .int 1, .int 2, .int 5, .int (10 ^ (6 : Int).toNat), .int t]) nl
          have g5 := g4.same ncf sl
          refine ⟨f, l, _, rfl, g4.fe.ne nl, SqL.of upd_same, by show 0 < 6; decide, by show 6 ≤ 1000; decide, g5.fe, fun H6 j v hv c6 fe6 => ?_⟩
          obtain ⟨am, rfl, a0, a1⟩ : ∃ am : Int, v = .int am ∧ 0 ≤ am ∧ am ≤ 1000000 := by
            match j, hv with
            | 0, hv => exact ⟨0, (Option.some.inj hv).symm, by decide, by decide⟩
            | 1, hv => exact ⟨1, (Option.some.inj hv).symm, by decide, by decide⟩
            | 2, hv => exact ⟨2, (Option.some.inj hv).symm, by decide, by decide⟩
            | 3, hv => exact ⟨5, (Option.some.inj hv).symm, by decide, by decide⟩
            | 4, hv => exact ⟨_, (Option.some.inj hv).symm, by decide, by decide⟩
            | 5, hv => exact ⟨t, (Option.some.inj hv).symm, t0, by omega⟩
            | n + 6, hv => simp at hv
          have g6 := g5.go ncf c6 fe6
          refine ⟨by show 3 ≤ sizeLine; decide, fun q nq => ?_⟩
          have sq := same_new (o := tri (en.1, en.2.1, am)) nq
          have g7 := g6.same ncf sq
          refine ⟨c, xs, _, rfl, rfl, g7.hc, Nat.lt_of_le_of_lt (show xs.length ≤ 3000 by omega) (by decide), ?_⟩
          exact ⟨xs ++ [.ref q], es ++ [(en.1, en.2.1, am)], ⟨Ch.again nc g7.ch, g7.fe.upd ncf, upd_same, (g7.tr.app (trips_one (e := (en.1, en.2.1, am)) upd_same)).but (fun b o n e => by rw [upd_ne n]; exact e) g7.hc, g.g.app (good_one ⟨ge.1, a0⟩), g.b.app (e := (en.1, en.2.1, am)) ⟨gb.1, gb.2.1, a1⟩⟩, by rw [List.length_append]; show es.length + 1 = _; omega, _, _, _, rfl⟩
        · skip
          refine ⟨.ref c, rfl, .inl ⟨rfl, _, SqL.of g8.hc⟩, .int lo, rfl, .int hi, rfl, .ref f, rfl, 10, 6, rfl, rfl, ⟨by decide, by decide, by decide⟩, .ref f, rfl, f, 50, rfl, by decide, by decide, g8.fe, fun H4 t c4 fe4 t0 t1 => ⟨by show 6 ≤ sizeLine; decide, fun l nl => ?_⟩⟩
          have g4 := g8.go ncf c4 fe4
          have sl := same_new (o := .lst [.int 0, .int 1, .int 2, .int 5, .int (10 ^ (6 : Int).toNat), .int t]) nl
          have g5 := g4.same ncf sl
          refine ⟨f, l, _, rfl, g4.fe.ne nl, SqL.of upd_same, by show 0 < 6; decide, by show 6 ≤ 1000; decide, g5.fe, fun H6 j v hv c6 fe6 => ?_⟩
          obtain ⟨am, rfl, a0, a1⟩ : ∃ am : Int, v = .int am ∧ 0 ≤ am ∧ am ≤ 1000000 := by
            match j, hv with
            | 0, hv => exact ⟨0, (Option.some.inj hv).symm, by decide, by decide⟩
            | 1, hv => exact ⟨1, (Option.some.inj hv).symm, by decide, by decide⟩
            | 2, hv => exact ⟨2, (Option.some.inj hv).symm, by decide, by decide⟩
            | 3, hv => exact ⟨5, (Option.some.inj hv).symm, by decide, by decide⟩
            | 4, hv => exact ⟨_, (Option.some.inj hv).symm, by decide, by decide⟩
            | 5, hv => exact ⟨t, (Option.some.inj hv).symm, t0, by omega⟩
            | n + 6, hv => simp at hv
          have g6 := g5.go ncf c6 fe6
          refine ⟨by show 3 ≤ sizeLine; decide, fun q nq => ?_⟩
          have sq := same_new (o := tri (lo, hi, am)) nq
          have g7 := g6.same ncf sq
          refine ⟨c, xs, _, rfl, rfl, g7.hc, Nat.lt_of_le_of_lt (show xs.length ≤ 3000 by omega) (by decide), ?_⟩
          exact ⟨xs ++ [.ref q], es ++ [(lo, hi, am)], ⟨Ch.again nc g7.ch, g7.fe.upd ncf, upd_same, (g7.tr.app (trips_one (e := (lo, hi, am)) upd_same)).but (fun b o n e => by rw [upd_ne n]; exact e) g7.hc, g.g.app (good_one ⟨lh, a0⟩), g.b.app (e := (lo, hi, am)) ⟨l0, show hi ≤ 1000 by omega, a1⟩⟩, by rw [List.length_append]; show es.length + 1 = _; omega, _, _, _, rfl⟩
    rintro σ H9 ⟨xs, es, g, le, r3, r4, r5, rfl⟩
    exact ⟨.ref c, rfl, hq _ c xs es g.ch g.fe g.hc ncf nc g.tr g.g g.b (by omega)⟩
end
end XU

/-! texts of ints -/
namespace WN
open PySem PySem.Spec PyProof.Rows L2 KA PH PM PA PB PC RM RN QE QF QG QH
theorem len_app (x y : Str) : (x ++ y).length = x.length + y.length := by
  show (x.cps ++ y.cps).size = _
  rw [Array.size_append]
  rfl
/-- the text of an int -/
def ti (i : Int) : Str := toString i
theorem ti_len {i : Int} (h : i.natAbs < 2 ^ 39) : (ti i).length ≤ 13 := by
  have := PySem.int_text_length_le10 (a := i) (k := 12) (by decide) (Nat.lt_trans h (by decide))
  have e : (ti i).length = (toString i).length := PySem.ofString_length _
  omega
theorem ti_log {i : Int} (h : i.natAbs < 2 ^ 39) : i.natAbs.log2 < 1920 := Nat.lt_of_lt_of_le (KG.small_log (by decide) h) (by decide)
def txC (r : Int × Int) : Str := ((Str.empty ++ ti r.1) ++ ":") ++ ti r.2
theorem col_len : ((":" : Str)).length = 1 := by decide +kernel
theorem txC_len {r : Int × Int} (h : r.1.natAbs < 2 ^ 39 ∧ r.2.natAbs < 2 ^ 39) : (txC r).length ≤ 27 := by
  unfold txC
  have h1 := ti_len h.1
  have h2 := ti_len h.2
  have h0 : (Str.empty).length = 0 := rfl
  have hc := col_len
  rw [len_app, len_app, len_app]
  omega
def rowC (ds : List (Int × Int)) : Str := if ds = [] then "none" else Txt.join " " (ds.map txC)
def rowP (rs : List Int) : Str := if rs = [] then "none" else Txt.join " " (rs.map ti)
def txt (ds : List (Int × Int)) (rs : List Int) : Str := Txt.join "\n" [rowC ds, rowP rs]
theorem sum_le {B : Nat} : ∀ {xs : List Str}, (∀ x ∈ xs, x.length ≤ B) → (xs.map (·.length)).sum ≤ B * xs.length
  | [], _ => Nat.zero_le _
  | x :: xs, h => by
    have h1 := h x List.mem_cons_self
    have h2 := sum_le (xs := xs) fun y hy => h y (List.mem_cons_of_mem _ hy)
    rw [List.map_cons, List.sum_cons, List.length_cons, Nat.mul_succ]
    omega
theorem sjoin_len {sep : Str} {B : Nat} : ∀ {xs : List Str}, (∀ x ∈ xs, x.length ≤ B) → (Str.join sep xs).length ≤ (B + sep.length) * xs.length
  | [], _ => Nat.zero_le _
  | [x], h => by
    have h1 := h x List.mem_cons_self
    show x.length ≤ _
    rw [List.length_singleton, Nat.mul_one]
    omega
  | x :: y :: xs, h => by
    have h1 := h x List.mem_cons_self
    have h2 := sjoin_len (sep := sep) (xs := y :: xs) fun z hz => h z (List.mem_cons_of_mem _ hz)
    show (x ++ sep ++ Str.join sep (y :: xs)).length ≤ _
    rw [len_app, len_app, List.length_cons, Nat.mul_succ]
    omega
theorem join_len {sep : Str} {B : Nat} {xs : List Str} (h : ∀ x ∈ xs, x.length ≤ B) : (Txt.join sep xs).length ≤ (B + sep.length) * xs.length := by
  show (Builtin.Str.glued sep xs).length ≤ _
  rw [StrLaws.glued_eq_join]
  exact sjoin_len h
end WN

namespace K20
open KM PM RM RN RC RE K9
/-! ### there are closed cycles -/
def leB (r s : Int × Int) : Bool := decide (Le r s)
theorem sorted_ex (l : List (Int × Int)) : ∃ es : List (Int × Int), es.Perm l ∧ es.Pairwise Le := by
  refine ⟨l.mergeSort leB, List.mergeSort_perm l leB, ?_⟩
  have h := List.pairwise_mergeSort (le := leB) (fun a b c h1 h2 => by
    have h1 := of_decide_eq_true h1
    have h2 := of_decide_eq_true h2
    refine decide_eq_true ?_
    simp only [Le] at *
    omega) (fun a b => by
    by_cases h : Le a b
    · simp [leB, h]
    · have : Le b a := by simp only [Le] at *; omega
      simp [leB, this]) l
  exact h.imp fun h => of_decide_eq_true h
theorem top_ex {ns : List Int} (h : ns ≠ []) : ∃ a M, Top ns a M := by
  have mx : ∀ l : List Int, l ≠ [] → ∃ M ∈ l, ∀ x ∈ l, x ≤ M := by
    intro l
    induction l with
    | nil => exact fun h => absurd rfl h
    | cons a l ih =>
      intro _
      by_cases e : l = []
      · subst e
        exact ⟨a, by simp, fun x hx => by rw [List.mem_singleton.mp hx]; exact Int.le_refl _⟩
      · obtain ⟨M, h1, h2⟩ := ih e
        by_cases c : a ≤ M
        · refine ⟨M, List.mem_cons_of_mem _ h1, fun x hx => ?_⟩
          rcases List.mem_cons.mp hx with z | z
          · omega
          · exact h2 x z
        · refine ⟨a, List.mem_cons_self, fun x hx => ?_⟩
          rcases List.mem_cons.mp hx with z | z
          · omega
          · have := h2 x z
            omega
  obtain ⟨M, hM, hle⟩ := mx ns h
  have fs : ∀ l : List Int, M ∈ l → ∃ j : Nat, l[j]? = some M ∧ ∀ (m : Nat) (z : Int), m < j → l[m]? = some z → z ≠ M := by
    intro l
    induction l with
    | nil => exact fun h => (List.not_mem_nil h).elim
    | cons x l ih =>
      intro hm
      by_cases e : x = M
      · exact ⟨0, by rw [e]; rfl, fun m z hm _ => absurd hm (Nat.not_lt_zero _)⟩
      · obtain ⟨j, h1, h2⟩ := ih (by
          rcases List.mem_cons.mp hm with z | z
          · exact absurd z.symm e
          · exact z)
        refine ⟨j + 1, h1, fun m z hm hz => ?_⟩
        cases m with
        | zero => rw [← Option.some.inj hz]; exact e
        | succ m => exact h2 m z (by omega) hz
  obtain ⟨j, h1, h2⟩ := fs ns hM
  exact ⟨j, M, h1, hle, h2⟩
theorem min_ex {l : List Int} (h : l ≠ []) : ∃ m ∈ l, ∀ x ∈ l, m ≤ x := by
  induction l with
  | nil => exact absurd rfl h
  | cons a l ih =>
    by_cases e : l = []
    · subst e
      exact ⟨a, by simp, fun x hx => by rw [List.mem_singleton.mp hx]; exact Int.le_refl _⟩
    · obtain ⟨M, h1, h2⟩ := ih e
      by_cases c : M ≤ a
      · refine ⟨M, List.mem_cons_of_mem _ h1, fun x hx => ?_⟩
        rcases List.mem_cons.mp hx with z | z
        · omega
        · exact h2 x z
      · refine ⟨a, List.mem_cons_self, fun x hx => ?_⟩
        rcases List.mem_cons.mp hx with z | z
        · omega
        · have := h2 x z
          omega
theorem cl_ex (ns : List Int) : ∃ es, Cl ns es ∧ es.length ≤ ns.length + 2 := by
  by_cases hn : ns = []
  · exact ⟨[], Cl.all_eq (M := 0) fun x hx => by rw [hn] at hx; exact (List.not_mem_nil hx).elim, Nat.zero_le _⟩
  obtain ⟨a, M, t⟩ := top_ex hn
  by_cases hd : (tp (circ ns a)).dropLast = []
  · exact ⟨[], Cl.all_eq ((cp_nil t).mp hd), Nat.zero_le _⟩
  obtain ⟨m, hm, hl⟩ := min_ex hd
  obtain ⟨cs, rs, run, nf⟩ := RM.ends _ (tp (circ ns a)) (Nat.le_refl _)
  obtain ⟨es, p, s⟩ := sorted_ex (cs ++ [(m, M)])
  refine ⟨es, (cl_of t hd run nf (List.Perm.refl cs) hm hl p s).1, ?_⟩
  have h1 := run.len
  have h2 := tp_len (circ ns a)
  have h3 : (circ ns a).length = ns.length + 1 := by
    have := (List.getElem?_eq_some_iff.mp t.at').1
    unfold circ
    rw [List.length_append, List.length_drop, List.length_take]
    omega
  rw [p.length_eq, List.length_append]
  show cs.length + 1 ≤ _
  omega
/-! ### the letters round the circle, one by one -/
theorem cyc_first {l : List Bool} {a z : Bool} (h0 : l[0]? = some a) (h1 : l[l.length - 1]? = some z) : cyc l = cnt l + (if z = a then 0 else 1) := by
  unfold cyc
  rw [List.getLast?_eq_getElem?, h1, List.head?_eq_getElem?, h0]
  rfl
/-! ### the law's turns -/
def Enm (o : List Int) (i : Nat) (fnd : List Int) : Prop := (i = 0 ∧ fnd = []) ∨ (i = o.length ∧ fnd = lp o) ∨ (∃ j p c, i = j + 1 ∧ j + 1 < o.length ∧ o[j]? = some p ∧ o[j + 1]? = some c ∧ lp o = fnd ++ lq p c (o.drop (j + 2)))
theorem enm_start {o : List Int} {x : Int} (h : o[0]? = some x) : Enm o 1 [x] := by
  match o, h with
  | [y], h =>
    have e : y = x := Option.some.inj h
    exact .inr (.inl ⟨rfl, by rw [e]; rfl⟩)
  | y :: z :: l, h =>
    have e : y = x := Option.some.inj h
    subst e
    exact .inr (.inr ⟨0, y, z, rfl, by simp, rfl, rfl, rfl⟩)
theorem enm_last {o fnd : List Int} {i : Nat} {x : Int} (h : o[i]? = some x) (hi : 0 < i) (hl : i + 1 = o.length) (e : Enm o i fnd) : Enm o (i + 1) (fnd ++ [x]) := by
  rcases e with ⟨e, _⟩ | ⟨e, _⟩ | ⟨j, p, c, e1, e2, e3, e4, e5⟩
  · omega
  · omega
  · subst e1
    rw [h] at e4
    cases e4
    refine .inr (.inl ⟨hl, ?_⟩)
    rw [e5, List.drop_eq_nil_of_le (by omega)]
    rfl
theorem enm_mid {o fnd : List Int} {i : Nat} {p x d : Int} (hp : o[i - 1]? = some p) (h : o[i]? = some x) (hd : o[i + 1]? = some d) (hi : 0 < i) (e : Enm o i fnd) : Enm o (i + 1) (if decide (p < x) = decide (d < x) then fnd ++ [x] else fnd) := by
  have hlt := (List.getElem?_eq_some_iff.mp hd).1
  rcases e with ⟨e, _⟩ | ⟨e, _⟩ | ⟨j, p', c, e1, e2, e3, e4, e5⟩
  · omega
  · omega
  · subst e1
    rw [show j + 1 - 1 = j by omega, e3] at hp
    cases hp
    rw [h] at e4
    cases e4
    obtain ⟨h1, h2⟩ := List.getElem?_eq_some_iff.mp hd
    refine .inr (.inr ⟨j + 1, x, d, rfl, by omega, h, hd, ?_⟩)
    rw [e5, List.drop_eq_getElem_cons h1, h2]
    simp only [lq]
    have ed : (decide (x > p) = decide (x > d)) ↔ (decide (p < x) = decide (d < x)) := Iff.rfl
    by_cases z : decide (p < x) = decide (d < x)
    · rw [if_pos z, if_pos (ed.mpr z), List.append_assoc]
      rfl
    · rw [if_neg z, if_neg (fun y => z (ed.mp y))]
theorem enm_end {o fnd : List Int} (e : Enm o o.length fnd) : fnd = lp o := by
  rcases e with ⟨e, h⟩ | ⟨_, h⟩ | ⟨j, p, c, e1, e2, _⟩
  · have : o = [] := List.length_eq_zero_iff.mp e.symm.symm
    rw [this, h]
    rfl
  · exact h
  · omega
end K20

set_option pp.maxSteps 900
/-! k80's own defs -/
namespace H8V
open PySem PySem.Spec PyProof.Rows L2 KA KD KL PH PM PA PB PC RM RN RS QE QF QG QH K20 K52b UJN VQ WF2 WP XU H8W
open XT hiding pairs_get
open K9 (Cn cn_one)
abbrev sAm : Stmt := topS 36
abbrev sWe : Stmt := topS 37
abbrev sCl : Stmt := topS 38
abbrev sDu : Stmt := topS 39
theorem scAm : FnScope ["entries", "low", "high", "found", "start", "end", "amount"] ["entries", "low", "high"] (defScope sAm) := ⟨rfl, rfl, rfl, by decide +kernel, rfl, by decide +kernel, by decide +kernel⟩
theorem scWe : FnScope ["entries", "ranges", "low", "high"] ["entries", "ranges"] (defScope sWe) := ⟨rfl, rfl, rfl, by decide +kernel, rfl, by decide +kernel, by decide +kernel⟩
theorem scCl : FnScope ["load", "at", "points", "cycles", "places"] ["load"] (defScope sCl) := ⟨rfl, rfl, rfl, by decide +kernel, rfl, by decide +kernel, by decide +kernel⟩
theorem scDu : FnScope ["feed", "load", "entries", "is_round", "cycles", "rest"] ["feed", "load", "entries", "is_round"] (defScope sDu) := ⟨rfl, rfl, rfl, by decide +kernel, rfl, by decide +kernel, by decide +kernel⟩
theorem wear_perm {T : List Ent} {rs ss : List (Int × Int)} (h : rs.Perm ss) : wear T rs = wear T ss := by
  unfold wear
  induction h with
  | nil => rfl
  | cons x _ ih => rw [List.map_cons, List.map_cons, List.sum_cons, List.sum_cons, ih]
  | swap x y l => simp only [List.map_cons, List.sum_cons]; omega
  | trans _ _ h1 h2 => rw [h1, h2]
theorem wear_halv {T : List Ent} {ld : List Int} {b : Bool} {es fs : List (Int × Int)} (h : Halv ld b es) (g : Halv ld b fs) : wear T es = wear T fs := by
  cases b with
  | false =>
    obtain ⟨ds, rs, c1, p1⟩ := h
    obtain ⟨ds2, rs2, c2, p2⟩ := g
    obtain ⟨e1, e2⟩ := cn_one rfl c1 c2
    subst e1 e2
    rw [wear_perm p1, wear_perm p2]
  | true =>
    obtain ⟨c1, h1, e1⟩ := h
    obtain ⟨c2, h2, e2⟩ := g
    rw [e1, e2, Cl.one h1 h2]
theorem ev_nil (ns : List Int) : PyData.eqv (.list (dInts ns)) (.list (dInts [])) = decide (ns = []) := by
  cases ns with
  | nil => rfl
  | cons e es => rfl
theorem taken_nf {rs : List Int} (h : rs.length ≤ 3) : NF rs := nf_of_plc (by unfold plc; rw [Nat.sub_eq_zero_of_le h]; rfl)
section
variable {P : Program} {w : World} {K : PySem.W.Frag} {mg : Str → Option Value} {base : Heap}
def spAm (K : PySem.W.Frag) : Sp := fun vs H Q _ => ∃ (a : Addr) (xs : List V) (es : List Ent) (lo hi : Int), vs = [.ref a, .int lo, .int hi] ∧ SqL K H a xs ∧ TripsAt H xs es ∧ Good es ∧ Q (.int (amt es lo hi)) H
theorem ok_am {f : Addr} {fd : FuncData} {k : Nat} (F : Fun K "_law_amount" "_law_amount" sAm f fd) : FnOk P w K mg base CX0 (k + 1) f fd ["entries", "low", "high"] (spAm K) := by
  refine F.ok scAm (fun vs H Q E h => ?_) (fun cdv A outer s H vs Q E hr h => ?_)
  · obtain ⟨a, xs, es, lo, hi, rfl, _⟩ := h
    rfl
  · obtain ⟨a, xs, es, lo, hi, rfl, hS, tr, g, hq⟩ := h
    refine ⟨_, (pss_cons (ps_set (i := 3) scAm.nd rfl (.inl rfl) pe_int)
      (pss_cons (ps_for PassesOwn.never rfl (pi_list (pv 0)) (pg_tup rfl (pgs_cons (pg_name (i := 4) scAm.nd rfl (.inl rfl)) (pgs_cons (pg_name (i := 5) scAm.nd rfl (.inl rfl)) (pgs_cons (pg_name (i := 6) scAm.nd rfl (.inl rfl)) pgs_nil))))
      (pss_one (ps_if (PW.pt (pw_and (pt_cmpR op_le (pv 1) (pv 4) (nomark _)) (pw_and (pt_cmpR op_le (pv 5) (pv 2) (nomark _)) (pw_and1 (pt_cmpR op_gt (pv 6) (pv 3) (nomark _)))))) (pss_one (ps_set (i := 3) scAm.nd rfl (.inl rfl) (pv 6))) pss_nil)))
      (pss_one (ps_ret (pv 3))))), ?_⟩
    have ll := tr.length
    refine ⟨.ref a, rfl, a, rfl, ⟨_, hS⟩, for_list (K := K) (a := a) (xs := xs) (fun i σ Hx => Hx = H ∧ ∃ r4 r5 r6 : Option V, σ = [some (.ref a), some (.int lo), some (.int hi), some (.int (amt (es.take i) lo hi)), r4, r5, r6]) ⟨rfl, _, _, _, rfl⟩ (fun i σ Hx _ g => by rw [g.1]; exact hS) ?_ ?_⟩
    · rintro i v σ Hx hv ⟨rfl, r4, r5, r6, rfl⟩
      obtain ⟨p, e, rfl, ee, hp⟩ := tr.get hv
      have ge := g e (List.mem_of_getElem? ee)
      have gt : Good (es.take i) := fun x hx => g x (List.mem_of_mem_take hx)
      have st : amt (es.take (i + 1)) lo hi = if (decide (lo ≤ e.1) && decide (e.2.1 ≤ hi)) = true then (if e.2.2 > amt (es.take i) lo hi then e.2.2 else amt (es.take i) lo hi) else amt (es.take i) lo hi := by
        rw [List.take_add_one, ee]
        exact amt_app gt ge lo hi
      refine ⟨p, _, rfl, SqT.of hp, rfl, .int e.1, [.int e.2.1, .int e.2.2], rfl, .int e.2.1, [.int e.2.2], rfl, .int e.2.2, [], rfl, rfl, ?_⟩
      refine ⟨.int lo, rfl, .int e.1, rfl, lo, e.1, rfl, rfl, _, rfl, ?_⟩
      by_cases c1 : lo ≤ e.1
      · rw [decide_eq_true c1]
        refine iteT ⟨.int e.2.1, rfl, .int hi, rfl, e.2.1, hi, rfl, rfl, _, rfl, ?_⟩
        by_cases c2 : e.2.1 ≤ hi
        · rw [decide_eq_true c2]
          rw [decide_eq_true c1, decide_eq_true c2, Bool.and_self, if_pos rfl] at st
          refine iteT ⟨.int e.2.2, rfl, .int (amt (es.take i) lo hi), rfl, e.2.2, amt (es.take i) lo hi, rfl, rfl, _, rfl, ?_⟩
          by_cases c3 : e.2.2 > amt (es.take i) lo hi
          · rw [if_pos c3] at st
            rw [decide_eq_true (show amt (es.take i) lo hi < e.2.2 from c3)]
            exact iteT ⟨.int e.2.2, rfl, rfl, _, _, _, by rw [st]; rfl⟩
          · rw [if_neg c3] at st
            rw [decide_eq_false (show ¬ amt (es.take i) lo hi < e.2.2 from c3)]
            exact iteF ⟨rfl, _, _, _, by rw [st]; rfl⟩
        · rw [decide_eq_false c2]
          rw [decide_eq_false c2, Bool.and_false, if_neg (by decide)] at st
          exact iteF (iteF ⟨rfl, _, _, _, by rw [st]; rfl⟩)
      · rw [decide_eq_false c1]
        rw [decide_eq_false c1, Bool.false_and, if_neg (by decide)] at st
        exact iteF (iteF ⟨rfl, _, _, _, by rw [st]; rfl⟩)
    rintro σ Hx ⟨rfl, r4, r5, r6, rfl⟩
    rw [ll, List.take_length]
    exact ⟨.int (amt es lo hi), rfl, hq⟩
def spWe (K : PySem.W.Frag) : Sp := fun vs H Q _ => ∃ (e a : Addr) (xs ys : List V) (es : List Ent) (rs : List (Int × Int)), vs = [.ref e, .ref a] ∧ SqL K H e xs ∧ TripsAt H xs es ∧ Good es ∧ SqL K H a ys ∧ PairsAt H ys rs ∧ rs.length ≤ 2000 ∧ ∀ H', Same H H' → Q (.int (wear es rs)) H'
theorem ok_we {f fAm : Addr} {fd dAm : FuncData} {k : Nat} (F : Fun K "_law_wear" "_law_wear" sWe f fd) (GAm : FnOk P w K mg base CX0 k fAm dAm ["entries", "low", "high"] (spAm K)) (gAm : mg "_law_amount" = some (.ref fAm)) (kAm : PySem.W.keepIn K (.ref fAm) = true) (bAm : Binds K dAm ["entries", "low", "high"] []) (msu : mg "sum" = none) : FnOk P w K mg base CX0 (k + 1) f fd ["entries", "ranges"] (spWe K) := by
  refine F.ok scWe (fun vs H Q E h => ?_) (fun cdv A outer s H vs Q E hr h => ?_)
  · obtain ⟨e, a, xs, ys, es, rs, rfl, _⟩ := h
    rfl
  · obtain ⟨e, a, xs, ys, es, rs, rfl, hE, tr, g, hS, pa, lr, hq⟩ := h
    refine ⟨_, (pss_one (ps_ret (pe_callB (cr_sum rfl) (by rfl) msu (by decide +kernel) (pa_cons (pe_lc (own := [("low", 2), ("high", 3)]) (g := gTup K 2 (gCons (gName 2) (gCons (gName 3) gNil))) (tt := tYes) (te := tCall (spAm K) [] E0 (tCons (tVar 0) (tCons (tVar 2) (tCons (tVar 3) tNil)))) rfl scWe.nd (pi_list (pv 1)) (blkOk_by (own := [("low", 2), ("high", 3)]) (N := ["entries", "ranges", "low", "high"]) (sc := defScope sWe) (by decide +kernel)) (fun _ _ _ _ _ => (pg_tup rfl (pgs_cons (pg_name (i := 2) scWe.nd rfl (Or.inl rfl) (Or.inr rfl)) (pgs_cons (pg_name (i := 3) scWe.nd rfl (Or.inl rfl) (Or.inr rfl)) pgs_nil)))) (fun _ _ _ _ _ => pts_nil) (fun _ _ _ _ _ => (pe_call GAm hr (by rfl) gAm kAm bAm .nil pass0 (pa_cons (pv 0) (pa_cons (pv 2) (pa_cons (pv 3) pa_nil)))))) pa_nil)))), ?_⟩
    have ll := pa.length
    refine ⟨.ref a, rfl, a, rfl, ⟨_, hS⟩, fun D nD => ?_⟩
    refine lc_list (K := K) (a := a) (xs := ys) (fun i Hz => Same H Hz ∧ Hz D = some (.lst (((rs.take i).map fun r => amt es r.1 r.2).map V.int))) ⟨same_new nD, upd_same⟩ (fun i Hz _ z => z.1.seq hS) ?_ ?_
    · rintro i y Hz hy ⟨sz, eD⟩
      obtain ⟨p, r, rfl, er, hp⟩ := XT.pairs_get pa hy
      refine ⟨p, _, rfl, SqT.of (sz _ _ hp), rfl, .int r.1, [.int r.2], rfl, .int r.2, [], rfl, rfl, rfl, iteT (B := True) ?_⟩
      refine ⟨.ref e, rfl, .int r.1, rfl, .int r.2, rfl, e, xs, es, r.1, r.2, rfl, sz.seq hE, tr.same sz, g, ?_⟩
      refine ⟨_, eD, ?_, same_again nD sz, ?_⟩
      · rw [List.length_map, List.length_map, List.length_take]; exact Nat.lt_of_le_of_lt (show _ ≤ 3000 by omega) (by decide)
      · rw [upd_same, List.take_add_one, er, List.map_append, List.map_append]; rfl
    rintro H1 ⟨s1, eD⟩
    rw [ll, List.take_length] at eD
    exact ⟨D, _, rfl, SqL.of eD, hq _ s1⟩
def spCl (K : PySem.W.Frag) : Sp := fun vs H Q _ => ∃ (a : Addr) (ns : List Int), vs = [.ref a] ∧ SqL K H a (ns.map V.int) ∧ ns.length ≤ 400 ∧ ∀ H' p ys es cl, Same H H' → H' p = some (.lst ys) → PairsAt H' ys es → Cl ns cl → es.Perm cl → es.length ≤ 1000 → Q (.ref p) H'
theorem ok_cl {f fLP fPL fLR : Addr} {fd dLP dPL dLR : FuncData} {k : Nat} (F : Fun K "_law_closed" "_law_closed" sCl f fd) (GLP : FnOk P w K mg base CX0 k fLP dLP ["load"] (spLP K)) (gLP : mg "_law_points" = some (.ref fLP)) (kLP : PySem.W.keepIn K (.ref fLP) = true) (bLP : Binds K dLP ["load"] [])
    (GPL : FnOk P w K mg base CX0 k fPL dPL ["points"] (spPl K)) (gPL : mg "_law_places" = some (.ref fPL)) (kPL : PySem.W.keepIn K (.ref fPL) = true) (bPL : Binds K dPL ["points"] []) (GLR : FnOk P w K mg base CX0 k fLR dLR ["one", "other"] spRng) (gLR : mg "_law_range" = some (.ref fLR)) (kLR : PySem.W.keepIn K (.ref fLR) = true) (bLR : Binds K dLR ["one", "other"] []) (ml : mg "len" = none) (mn : mg "min" = none) (mx : mg "max" = none) : FnOk P w K mg base CX0 (k + 1) f fd ["load"] (spCl K) := by
  refine F.ok scCl (fun vs H Q E h => ?_) (fun cdv A outer s H vs Q E hr h => ?_)
  · obtain ⟨a, ns, rfl, _⟩ := h
    rfl
  · obtain ⟨a, ns, rfl, hS, hl, hq⟩ := h
    refine ⟨_, (pss_cons (ps_if (PW.pt (pw_or (pt_cmpR (op_eqD hr.units) (pv 0) (pe_lst pa_nil) (nomark _)) (pw_or1 (pt_cmpR op_eq (pe_callB (GU.cr_minS rfl) (by rfl) mn (by decide +kernel) (pa_cons (pv 0) pa_nil)) (pe_callB (GU.cr_maxS rfl) (by rfl) mx (by decide +kernel) (pa_cons (pv 0) pa_nil)) (nomark _))))) (pss_one (ps_ret (pe_lst pa_nil))) pss_nil)
      (pss_cons (ps_set (i := 1) scCl.nd rfl (.inl rfl) (pe_bm PySem.F.plainAttrs_list PySem.F.slot_list_index PySem.F.type_list_index GU.mt_idxL (pv 0) (pa_cons (pe_callB (GU.cr_maxS rfl) (by rfl) mx (by decide +kernel) (pa_cons (pv 0) pa_nil)) pa_nil)))
      (pss_cons (ps_par (i := 2) (j := 3) (by rfl) scCl.nd rfl rfl (by decide) rfl rfl (pa_cons (pe_call GLP hr (by rfl) gLP kLP bLP .nil pass0 (pa_cons (pe_op op_cat (pe_slice sl_list (pv 0) (po_some (pv 1)) po_none) (pe_slice sl_list (pv 0) po_none (po_some (pe_op op_add (pv 1) pe_int)))) pa_nil)) (pa_cons (pe_lst pa_nil) pa_nil)) (by rfl))
      (pss_cons (ps_while PassesOwn.never (pt_cmpR op_gt (pe_callB call_len_seq (by rfl) ml PySem.boot_len (pa_cons (pv 2) pa_nil)) pe_int (nomark _))
      (pss_cons (ps_set (i := 4) scCl.nd rfl (.inl rfl) (pe_call GPL hr (by rfl) gPL kPL bPL .nil pass0 (pa_cons (pv 2) pa_nil)))
      (pss_cons (ps_expr (pe_bm PySem.F.plainAttrs_list PySem.F.slot_list_append PySem.F.type_list_append mt_append (pv 3) (pa_cons (pe_call GLR hr (by rfl) gLR kLR bLR .nil pass0 (pa_cons (pe_ix ix_list (pv 2) (pe_ix ix_list (pv 4) pe_int (fun _ _ => rfl)) (fun _ _ => rfl)) (pa_cons (pe_ix ix_list (pv 2) (pe_op op_add (pe_ix ix_list (pv 4) pe_int (fun _ _ => rfl)) pe_int) (fun _ _ => rfl)) pa_nil))) pa_nil)))
      (pss_one (ps_set (i := 2) scCl.nd rfl (.inl rfl) (pe_op op_cat (pe_slice sl_list (pv 2) po_none (po_some (pe_ix ix_list (pv 4) pe_int (fun _ _ => rfl)))) (pe_slice sl_list (pv 2) (po_some (pe_op op_add (pe_ix ix_list (pv 4) pe_int (fun _ _ => rfl)) pe_int)) po_none)))))))
      (pss_one (ps_ret (pe_op op_cat (pv 3) (pe_lst (pa_cons (pe_call GLR hr (by rfl) gLR kLR bLR .nil pass0 (pa_cons (pe_ix ix_list (pv 2) pe_int (fun _ _ => rfl)) (pa_cons (pe_ix ix_list (pv 2) pe_int (fun _ _ => rfl)) pa_nil))) pa_nil))))))))), ?_⟩
    have l1s : 1 ≤ sizeLine := by decide
    refine ⟨.ref a, rfl, Nat.zero_le _, fun e ne => ?_⟩
    have se := same_new (o := .lst []) ne
    refine ⟨.list (dInts ns), .list (dInts []), .lst (se.seq hS) (dp_ints ns), .lst (SqL.of upd_same) (dp_ints []), shaped_lst ns, shaped_lst [], _, rfl, ?_⟩
    rw [ev_nil]
    have hS1 := se.seq hS
    generalize upd H e (.lst []) = H1 at se hS1 ⊢
    by_cases hne : ns = []
    · rw [decide_eq_true hne]
      subst hne
      exact iteT (iteT ⟨Nat.zero_le _, fun p np => hq _ p [] [] [] (se.trans (same_new np)) upd_same trivial (Cl.all_eq (M := 0) fun x hx => (List.not_mem_nil hx).elim) (List.Perm.refl _) (Nat.zero_le _)⟩)
    rw [decide_eq_false hne]
    have hpos : 0 < ns.length := by
      cases ns with
      | nil => exact absurd rfl hne
      | cons x l => exact Nat.succ_pos _
    refine iteF ⟨.ref a, rfl, a, ns, rfl, .inl hS1, hpos, fun mn hmn hle => ⟨.ref a, rfl, a, ns, rfl, .inl hS1, hpos, fun mx hmx hge => ⟨rfl, _, rfl, ?_⟩⟩⟩
    by_cases hmm : mn = mx
    · rw [decide_eq_true (show V.int mn = V.int mx by rw [hmm])]
      refine iteT ⟨Nat.zero_le _, fun p np => hq _ p [] [] [] (se.trans (same_new np)) upd_same trivial (Cl.all_eq (M := mx) fun x hx => ?_) (List.Perm.refl _) (Nat.zero_le _)⟩
      have h1 := hle x hx
      have h2 := hge x hx
      omega
    rw [decide_eq_false (show ¬ V.int mn = V.int mx from fun z => hmm (V.int.inj z))]
    refine iteF ⟨.ref a, rfl, .inl ⟨rfl, _, hS1⟩, .ref a, rfl, a, ns, rfl, .inl hS1, hpos, fun M hM hleM => ?_⟩
    obtain ⟨j, h1, h2⟩ := first_at hM
    refine ⟨a, ns, M, j, rfl, rfl, hS1, h1, h2, ?_⟩
    have top : Top ns j M := ⟨h1, hleM, fun m z hm hz => h2 m z hm hz⟩
    have hj := (List.getElem?_eq_some_iff.mp h1).1
    -- points
    refine ⟨.ref a, rfl, .int (j : Nat), rfl, (j : Int), rfl, a, _, rfl, hS1, fun l1 nl1 => ?_⟩
    rw [VQ.cutv_from, ← List.map_drop]
    have t1 := same_new (o := .lst ((ns.drop j).map V.int)) nl1
    have g1 := upd_same (H := H1) (a := l1) (o := .lst ((ns.drop j).map V.int))
    generalize upd H1 l1 (.lst ((ns.drop j).map V.int)) = H2 at t1 g1 ⊢
    have ej : (j : Int) + 1 = ((j + 1 : Nat) : Int) := by omega
    refine ⟨.ref a, rfl, .int (j : Nat), rfl, (j : Int), 1, rfl, rfl, (j : Int) + 1, rfl, a, _, rfl, t1.seq hS1, fun l3 nl3 => ?_⟩
    rw [ej, VQ.cutv_to, ← List.map_take]
    have t3 := same_new (o := .lst ((ns.take (j + 1)).map V.int)) nl3
    refine ⟨l1, l3, _, _, rfl, rfl, t3 _ _ g1, upd_same, ?_, fun c nc => ?_⟩
    · rw [List.length_map, List.length_map, List.length_drop, List.length_take]
      exact Nat.le_trans (show _ ≤ 2500 by omega) (by decide)
    have t4 := t3.trans (same_new (o := .lst ((ns.drop j).map V.int ++ (ns.take (j + 1)).map V.int)) nc)
    have g4 : (upd (upd H2 l3 (.lst ((ns.take (j + 1)).map V.int))) c (.lst ((ns.drop j).map V.int ++ (ns.take (j + 1)).map V.int))) c = some (.lst ((circ ns j).map V.int)) := by
      unfold circ
      rw [upd_same, List.map_append]
    have lc : (circ ns j).length = ns.length + 1 := by
      unfold circ
      rw [List.length_append, List.length_drop, List.length_take]
      omega
    have w4 := se.trans (t1.trans t4)
    generalize upd (upd H2 l3 (.lst ((ns.take (j + 1)).map V.int))) c (.lst ((ns.drop j).map V.int ++ (ns.take (j + 1)).map V.int)) = H4 at t4 g4 w4 ⊢
    refine ⟨c, circ ns j, rfl, SqL.of g4, by omega, fun H5 p s5 np ep => ⟨Nat.zero_le _, fun C nC => ⟨.ref p, .ref C, rfl, ?_⟩⟩⟩
    have w5 := w4.trans s5
    have sC := same_new (o := .lst []) nC
    have nC0 : H C = none := w5.free nC
    have npC : p ≠ C := fun z => by rw [z, nC] at ep; cases ep
    have ep6 := sC _ _ ep
    have eC6 := upd_same (H := H5) (a := C) (o := .lst [])
    have w6 := w5.trans sC
    generalize upd H5 C (.lst []) = H6 at ep6 eC6 w6 ⊢
    clear sC nC s5 np ep t4 g4 nc t3 nl3 g1 t1 nl1 hS1 se ne
    have hl := tp_len (circ ns j)
    obtain ⟨k1, k2, k3⟩ := tp_circ top
    have zz := tp_zz (circ ns j)
    have notall : ¬ ∀ x ∈ ns, x = M := fun z => hmm ((z mn hmn).trans (z mx hmx).symm)
    have hdl : (tp (circ ns j)).dropLast ≠ [] := fun z => notall ((cp_nil top).mp z)
    have three : ∀ {rs : List Int} {cs : List (Int × Int)}, Run (tp (circ ns j)) cs rs → NF rs → ∃ m, m < M ∧ rs = [M, m, M] := fun {rs cs} r n => by
      obtain ⟨e1, e2, e3, e4⟩ := run_keep r zz
      rcases rest_three (r.zz zz) n (e1.trans k1) (e2.trans k2) (fun x hx => k3 x (e3 x hx)) with e | e
      · exfalso
        rcases RN.Run.ends r with ⟨_, z⟩ | z
        · rw [z, e] at hdl
          exact hdl rfl
        · rw [e] at z
          simp at z
      · exact e
    refine ⟨fun n σ Hx => ∃ (P' : Addr) (xs : List V) (cs : List (Int × Int)) (rs : List Int), n = rs.length ∧ Same H Hx ∧ Hx P' = some (.lst (rs.map V.int)) ∧ Hx C = some (.lst xs) ∧ PairsAt Hx xs cs ∧ P' ≠ C ∧ Run (tp (circ ns j)) cs rs ∧ ∃ r4 : Option V, σ = [some (.ref a), some (.int (j : Nat)), some (.ref P'), some (.ref C), r4], ⟨_, p, [], [], tp (circ ns j), rfl, w6, ep6, eC6, trivial, npC, .nil _, _, rfl⟩, ?_⟩
    clear w6 ep6 eC6 npC w5 w4
    rintro n σ Hx ⟨P', xs, cs, rs, rfl, sx, eP, eC, pa, nPC, run, r4, rfl⟩
    have rl := run.len
    have xl := pa.length
    refine ⟨.ref P', rfl, P', _, rfl, .inl (SqL.of eP), _, _, rfl, rfl, _, rfl, ?_⟩
    by_cases lt : 3 < rs.length
    · rw [decide_eq_true (show (3 : Int) < (((rs.map V.int).length : Nat) : Int) by rw [List.length_map]; omega)]
      refine iteT ⟨fun σ Hx => ∃ m', m' < rs.length ∧ ∃ (P' : Addr) (xs : List V) (cs : List (Int × Int)) (rs : List Int), m' = rs.length ∧ Same H Hx ∧ Hx P' = some (.lst (rs.map V.int)) ∧ Hx C = some (.lst xs) ∧ PairsAt Hx xs cs ∧ P' ≠ C ∧ Run (tp (circ ns j)) cs rs ∧ ∃ r4 : Option V, σ = [some (.ref a), some (.int (j : Nat)), some (.ref P'), some (.ref C), r4], fun _ _ z => z, ?_⟩
      refine ⟨.ref P', rfl, P', rs, rfl, SqL.of eP, by omega, fun H2 pp s2 npp epp => ?_⟩
      have hpl : plc rs ≠ [] := fun z => by
        obtain ⟨m, _, e⟩ := three run (nf_of_plc z)
        rw [e] at lt
        simp at lt
      obtain ⟨x, pr, epl⟩ : ∃ x pr, plc rs = x :: pr := by
        cases hq : plc rs with
        | nil => exact absurd hq hpl
        | cons x pr => exact ⟨x, pr, rfl⟩
      obtain ⟨i, rfl, tk⟩ := plc_mem (show x ∈ plc rs by rw [epl]; simp)
      obtain ⟨pre, b, c', d, d', post, ers, epre, tkn⟩ := taken_here tk
      rw [epl] at epp
      have eP2 := s2 _ _ eP
      have eC2 := s2 _ _ eC
      have sx2 := sx.trans s2
      have pa2 := pa.same s2
      have gi1 : (rs.map V.int)[i + 1]? = some (.int c') := by
        rw [ers]
        rw [show (pre ++ b :: c' :: d :: d' :: post) = (pre ++ [b]) ++ c' :: d :: d' :: post by simp, List.getElem?_map, List.getElem?_append_right (by simp [epre])]
        simp [epre]
      have gi2 : (rs.map V.int)[i + 2]? = some (.int d) := by
        rw [ers]
        rw [show (pre ++ b :: c' :: d :: d' :: post) = (pre ++ [b, c']) ++ d :: d' :: post by simp, List.getElem?_map, List.getElem?_append_right (by simp [epre])]
        simp [epre]
      have ei1 : ((i : Nat) : Int) + 1 = ((i + 1 : Nat) : Int) := by omega
      have ei2 : ((i + 1 : Nat) : Int) + 1 = ((i + 2 : Nat) : Int) := by omega
      have ei3 : ((i + 1 : Nat) : Int) + 2 = ((i + 3 : Nat) : Int) := by omega
      rw [ei1] at epp
      have e0 : ((((i + 1 : Nat) : Int) :: pr).map V.int)[0]? = some (.int ((i + 1 : Nat) : Int)) := rfl
      refine ⟨.ref C, rfl, .inl ⟨rfl, _, SqL.of eC2⟩, .ref P', rfl, .ref pp, rfl, pp, _, 0, .int ((i + 1 : Nat) : Int), rfl, rfl, SqL.of epp, at_of (j := 0) rfl e0, P', _, ((i + 1 : Nat) : Int), .int c', rfl, rfl, SqL.of eP2, atI_nat gi1, ?_⟩
      refine ⟨.ref P', rfl, .ref pp, rfl, pp, _, 0, .int ((i + 1 : Nat) : Int), rfl, rfl, SqL.of epp, at_of (j := 0) rfl e0, ((i + 1 : Nat) : Int), 1, rfl, rfl, P', _, ((i + 1 : Nat) : Int) + 1, .int d, rfl, rfl, SqL.of eP2, by rw [ei2]; exact atI_nat gi2, c', d, rfl, fun q nq => ?_⟩
      have s3 := same_new (o := .tup [.int (rg c' d).1, .int (rg c' d).2]) nq
      have eq := upd_same (H := H2) (a := q) (o := .tup [.int (rg c' d).1, .int (rg c' d).2])
      have nqC : q ≠ C := fun z => by rw [z, eC2] at nq; cases nq
      have eC3 := s3 _ _ eC2
      have eP3 := s3 _ _ eP2
      have epp3 := s3 _ _ epp
      have pa3 := pa2.same s3
      have sx3 := sx2.trans s3
      generalize upd H2 q (.tup [.int (rg c' d).1, .int (rg c' d).2]) = H3 at s3 eq eC3 eP3 epp3 pa3 sx3 ⊢
      refine ⟨C, xs, .ref q, rfl, rfl, eC3, small3000 (by omega), ?_⟩
      have nppC : pp ≠ C := fun z => by rw [z, eC] at npp; cases npp
      have eP4 : (upd H3 C (.lst (xs ++ [.ref q]))) P' = some (.lst (rs.map V.int)) := by rw [upd_ne nPC]; exact eP3
      have epp4 : (upd H3 C (.lst (xs ++ [.ref q]))) pp = some (.lst ((((i + 1 : Nat) : Int) :: pr).map V.int)) := by rw [upd_ne nppC]; exact epp3
      have pa4 : PairsAt (upd H3 C (.lst (xs ++ [.ref q]))) (xs ++ [.ref q]) (cs ++ [rg c' d]) := PairsAt.append (pairs_upd eC3 pa3) ⟨⟨q, rfl, by rw [upd_ne nqC]; exact eq⟩, trivial⟩
      have sx4 := same_again (o := .lst (xs ++ [.ref q])) nC0 sx3
      have eC4 := upd_same (H := H3) (a := C) (o := .lst (xs ++ [.ref q]))
      generalize upd H3 C (.lst (xs ++ [.ref q])) = H4 at eP4 epp4 pa4 sx4 eC4 ⊢
      refine ⟨.ref P', rfl, .ref pp, rfl, pp, _, 0, .int ((i + 1 : Nat) : Int), rfl, rfl, SqL.of epp4, at_of (j := 0) rfl e0, _, rfl, P', _, rfl, SqL.of eP4, fun l1 nl1 => ?_⟩
      rw [VQ.cutv_to, ← List.map_take]
      have t1 := same_new (o := .lst ((rs.take (i + 1)).map V.int)) nl1
      have g1 := upd_same (H := H4) (a := l1) (o := .lst ((rs.take (i + 1)).map V.int))
      generalize upd H4 l1 (.lst ((rs.take (i + 1)).map V.int)) = H5 at t1 g1 ⊢
      refine ⟨.ref P', rfl, .ref pp, rfl, pp, _, 0, .int ((i + 1 : Nat) : Int), rfl, rfl, SqL.of (t1 _ _ epp4), at_of (j := 0) rfl e0, ((i + 1 : Nat) : Int), 2, rfl, rfl, _, rfl, P', _, rfl, SqL.of (t1 _ _ eP4), fun l2 nl2 => ?_⟩
      rw [ei3, VQ.cutv_from, ← List.map_drop]
      have t2 := same_new (o := .lst ((rs.drop (i + 3)).map V.int)) nl2
      refine ⟨l1, l2, _, _, rfl, rfl, t2 _ _ g1, upd_same, ?_, fun P2 nP2 => ?_⟩
      · rw [List.length_map, List.length_map, List.length_drop, List.length_take]
        exact Nat.le_trans (show _ ≤ 2500 by omega) (by decide)
      have enew : rs.take (i + 1) ++ rs.drop (i + 3) = pre ++ b :: d' :: post := by
        rw [ers]
        rw [show (pre ++ b :: c' :: d :: d' :: post) = (pre ++ [b]) ++ (c' :: d :: d' :: post) by simp, List.take_left' (by simp [epre]), show (pre ++ [b]) ++ (c' :: d :: d' :: post) = (pre ++ [b, c', d]) ++ (d' :: post) by simp, List.drop_left' (by simp [epre])]
        simp
      rw [← List.map_append, enew]
      have t3 := same_new (o := .lst ((pre ++ b :: d' :: post).map V.int)) nP2
      have w := t1.trans (t2.trans t3)
      have nP2C : P2 ≠ C := fun z => by rw [z, (t1.trans t2) _ _ eC4] at nP2; cases nP2
      refine ⟨(pre ++ b :: d' :: post).length, by rw [ers]; simp, P2, xs ++ [.ref q], cs ++ [rg c' d], pre ++ b :: d' :: post, rfl, sx4.trans w, upd_same, w _ _ eC4, pa4.same w, nP2C, ?_, _, rfl⟩
      refine run.snoc ?_
      rw [ers]
      exact (Step.here tkn).prefix pre
    · rw [decide_eq_false (show ¬ (3 : Int) < (((rs.map V.int).length : Nat) : Int) by rw [List.length_map]; omega)]
      refine iteF ?_
      have nf := taken_nf (rs := rs) (by omega)
      obtain ⟨m, hm, ers⟩ := three run nf
      subst ers
      obtain ⟨e1, e2, e3, e4⟩ := run_keep run zz
      refine ⟨.ref C, rfl, .ref P', rfl, P', _, 0, .int M, rfl, rfl, SqL.of eP, at_of (j := 0) rfl rfl, .ref P', rfl, P', _, 1, .int m, rfl, rfl, SqL.of eP, at_of (j := 1) rfl rfl, M, m, rfl, fun q nq => ⟨l1s, fun l nl => ?_⟩⟩
      have s3 := same_new (o := .tup [.int (rg M m).1, .int (rg M m).2]) nq
      have eq := upd_same (H := Hx) (a := q) (o := .tup [.int (rg M m).1, .int (rg M m).2])
      generalize upd Hx q (.tup [.int (rg M m).1, .int (rg M m).2]) = H3 at s3 eq nl ⊢
      have s4 := same_new (o := .lst [.ref q]) nl
      refine ⟨C, l, xs, _, rfl, rfl, s4 _ _ (s3 _ _ eC), upd_same, Nat.le_trans (show xs.length + 1 ≤ 3000 by omega) (by decide), fun z nz => ?_⟩
      have s5 := same_new (o := .lst (xs ++ [.ref q])) nz
      have w := s3.trans (s4.trans s5)
      obtain ⟨es, perm, srt⟩ := K20.sorted_ex (cs ++ [(m, M)])
      have md : m ∈ (tp (circ ns j)).dropLast := by
        have := e3 m (by simp)
        rw [← drop_last_back k2] at this
        rcases List.mem_append.mp this with z | z
        · exact z
        · rw [List.mem_singleton.mp z] at hm
          omega
      have ml' : ∀ x ∈ (tp (circ ns j)).dropLast, m ≤ x := fun x hx => by
        obtain ⟨y, hy, yx⟩ := e4 x (mem_dl hx)
        simp only [List.mem_cons, List.not_mem_nil, or_false] at hy
        rcases hy with rfl | rfl | rfl <;> omega
      obtain ⟨clh, _⟩ := cl_of top hdl run nf (List.Perm.refl cs) md ml' perm srt
      refine hq _ z (xs ++ [.ref q]) (cs ++ [(m, M)]) es (sx.trans w) upd_same ?_ clh perm.symm ?_
      · rw [rg_down hm] at eq
        exact ((pa.same w).append ⟨⟨q, rfl, (s4.trans s5) _ _ eq⟩, trivial⟩)
      · rw [List.length_append, List.length_singleton]
        omega
def spDu (K : PySem.W.Frag) : Sp := fun vs H Q _ => ∃ (f a e : Addr) (ns : List Int) (xs : List V) (es : List Ent) (b : Bool), vs = [.ref f, .ref a, .ref e, .bl b] ∧ SqL K H a (ns.map V.int) ∧ ns.length ≤ 400 ∧ SqL K H e xs ∧ TripsAt H xs es ∧ Good es ∧ ∀ H' hs, Same H H' → Halv ns b hs → Q (.int (wear es hs)) H'
theorem ok_du {f0 fWe fCl fCT fHV : Addr} {fd dWe dCl dCT dHV : FuncData} {k : Nat} (F : Fun K "_law_due" "_law_due" sDu f0 fd) (GWe : FnOk P w K mg base CX0 k fWe dWe ["entries", "ranges"] (spWe K)) (gWe : mg "_law_wear" = some (.ref fWe)) (kWe : PySem.W.keepIn K (.ref fWe) = true) (bWe : Binds K dWe ["entries", "ranges"] [])
    (GCl : FnOk P w K mg base CX0 k fCl dCl ["load"] (spCl K)) (gCl : mg "_law_closed" = some (.ref fCl)) (kCl : PySem.W.keepIn K (.ref fCl) = true) (bCl : Binds K dCl ["load"] []) (GCT : FnOk P w K mg base CX0 k fCT dCT ["feed", "load"] (UCT.spCt K)) (gCT : mg "_law_count" = some (.ref fCT)) (kCT : PySem.W.keepIn K (.ref fCT) = true) (bCT : Binds K dCT ["feed", "load"] []) (GHV : FnOk P w K mg base CX0 k fHV dHV ["cycles", "rest"] (spHv K)) (gHV : mg "_law_halves" = some (.ref fHV)) (kHV : PySem.W.keepIn K (.ref fHV) = true) (bHV : Binds K dHV ["cycles", "rest"] []) : FnOk P w K mg base CX0 (k + 1) f0 fd ["feed", "load", "entries", "is_round"] (spDu K) := by
  refine F.ok scDu (fun vs H Q E h => ?_) (fun cdv A outer s H vs Q E hr h => ?_)
  · obtain ⟨f, a, e, ns, xs, es, b, rfl, _⟩ := h
    rfl
  · obtain ⟨f, a, e, ns, xs, es, b, rfl, hS, hl, hE, tr, g, hq⟩ := h
    refine ⟨_, (pss_cons (ps_if (pt_val (pv 3)) (pss_one (ps_ret (pe_op op_mul pe_int (pe_call GWe hr (by rfl) gWe kWe bWe .nil pass0 (pa_cons (pv 2) (pa_cons (pe_call GCl hr (by rfl) gCl kCl bCl .nil pass0 (pa_cons (pv 1) pa_nil)) pa_nil)))))) pss_nil)
      (pss_cons (ps_asg (pe_call GCT hr (by rfl) gCT kCT bCT .nil pass0 (pa_cons (pv 0) (pa_cons (pv 1) pa_nil))) (pg_tup rfl (pgs_cons (pg_name (i := 4) scDu.nd rfl (.inl rfl)) (pgs_cons (pg_name (i := 5) scDu.nd rfl (.inl rfl)) pgs_nil))))
      (pss_one (ps_ret (pe_call GWe hr (by rfl) gWe kWe bWe .nil pass0 (pa_cons (pv 2) (pa_cons (pe_call GHV hr (by rfl) gHV kHV bHV .nil pass0 (pa_cons (pv 4) (pa_cons (pv 5) pa_nil))) pa_nil))))))), ?_⟩
    refine ⟨.bl b, rfl, b, rfl, ?_⟩
    cases b with
    | true =>
      refine iteT ⟨.ref e, rfl, .ref a, rfl, a, ns, rfl, hS, hl, fun H2 p ys hs cl s2 hp pa hcl pm le => ?_⟩
      refine ⟨e, p, xs, ys, es, hs, rfl, s2.seq hE, tr.same s2, g, SqL.of hp, pa, by omega, fun H3 s3 => ?_⟩
      refine ⟨2, _, rfl, rfl, .inl ⟨by decide, by decide⟩, ?_⟩
      have e2 : (2 : Int) * wear es hs = wear es (cl ++ cl) := by rw [wear_perm pm, wear_app]; omega
      show Q (.int (2 * wear es hs)) H3
      rw [e2]
      have lc := pm.length_eq
      exact hq _ (cl ++ cl) (s2.trans s3) ⟨cl, hcl, rfl⟩
    | false =>
      refine iteF ⟨.ref f, rfl, .ref a, rfl, f, a, ns, rfl, hS, by omega, fun H2 p q1 q2 ys cs ds rs s2 np nq1 hp h1 pa pm srt h2 run nf => ?_⟩
      refine ⟨p, _, rfl, SqT.of hp, rfl, .ref q1, [.ref q2], rfl, .ref q2, [], rfl, rfl, ?_⟩
      have rl := run.len
      have tl := tp_len ns
      have dl := pm.length_eq
      refine ⟨.ref e, rfl, .ref q1, rfl, .ref q2, rfl, q1, q2, ys, ds, rs, rfl, h1, pa, h2, by omega, by omega, fun H3 z zs hs s3 nz hz pz pmz srtz => ?_⟩
      have w3 := s2.trans s3
      refine ⟨e, z, xs, zs, es, hs, rfl, w3.seq hE, tr.same w3, g, SqL.of hz, pz, ?_, fun H4 s4 => ?_⟩
      · rw [pmz.length_eq]
        simp only [List.length_append, sw_len]
        omega
      exact hq _ hs (w3.trans s4) ⟨ds, rs, ⟨⟨cs, run, pm⟩, nf, srt⟩, pmz⟩
end
end H8V

/-! == and != of two instances by an own __eq__, both answers -/
namespace GN
open PySem PySem.Spec PyProof.Rows L2
section
variable {M : Model} {prog : Program} {w : World} {A : Around} {E : Value → Shared → Prop} {s : Shared} {K : PySem.W.Frag} {x C L f : Addr} {ox : Obj} {od : Option Obj}
theorem entry_ne {y : Value} (X : K.In s.heap) (I : PySem.W.InstAt s.heap x ox C od) (hs : PySem.W.findIn K (.ref C) "__eq__" = some (some (.ref f))) (hf : PySem.W.isFn K (.ref f) = true) (hu : A.units < cLine) {Q : Fin → Shared → Prop}
    (hcall : wpAny (model prog w) A (call (.ref f) [.ref x, y]) (fun v s' => ∃ b, v = .bool b ∧ Q (.done (.ret (.bool (!b)))) s') E s) :
    wpAny (model prog w) A (Builtin.«object.__ne__» ⟨[.ref x, y], []⟩) Q E s := by
  unfold Builtin.«object.__ne__»
  repeat (first
    | with_reducible refine wpAny_cRoomFor hu ?_
    | (refine wpAny_bind (m := callSpecialIfBound? (.ref x) (Str.ofString "__eq__") [y])
        (PySem.W.ifBound_K X I hs hf (wpAny_mono hcall (fun r s' hr => by
          obtain ⟨b, rfl, hq⟩ := hr
          repeat (first | exact hq | exact wpAny_pure hq | exact wpAny_truthy_bool hq | (refine wpAny_bind (m := truthy (.bool _)) (wpAny_truthy_bool ?_)) | wp_step)) fun _ _ e => e)))
    | wp_step)
theorem ifBound_ne {args : List Value} {Q : Option Value → Shared → Prop} (X : K.In s.heap) (I : PySem.W.InstAt s.heap x ox C od) (hs : PySem.W.findIn K (.ref C) "__ne__" = some (some (.builtin "object.__ne__")))
    (h : wpAny M A (call (.builtin "object.__ne__") (.ref x :: args)) (fun v => Q (some v)) E s) : wpAny M A (callSpecialIfBound? (.ref x) "__ne__" args) Q E s := by
  simp only [callSpecialIfBound?, bindSpecialIfBound?]
  refine wpAny_holding (wpAny_bind (wpAny_bind (wpAny_bind (I.type.here ((PySem.W.looks_findIn X hs).here ?_)))))
  refine wpAny_bind (wpAny_askSetting (wpAny_ite ?_))
  have fin : wpAny M A (call (.builtin "object.__ne__") ([.ref x] ++ args) >>= fun v => pure (some v)) Q E s := wpAny_bind (wpAny_mono h (fun v s' h' => wpAny_pure h') fun _ _ h' => h')
  split
  · exact wpAny_bind (wpAny_of_eq (F.cmp_object.ne.bind _) (wpAny_pure (by exact fin)))
  · exact wpAny_tryCatch (wpAny_bind (wpAny_of_eq (F.cmp_object.ne.bind _) (wpAny_pure (by exact fin))))
theorem rc_ne {b tb : Value} {Q : Value → Shared → Prop} (hu : A.units + 1 < cLine) (X : K.In s.heap) (I : PySem.W.InstAt s.heap x ox C od) (hb : PySem.W.Looks (model prog w) s.heap (typeOf b) tb) (hn : PySem.W.notFirst K C tb = true)
    (hm : PySem.W.mroIn K C (.type "object") = some true) (hs : PySem.W.findIn K (.ref C) "__eq__" = some (some (.ref f))) (hf : PySem.W.isFn K (.ref f) = true) (hne : PySem.W.findIn K (.ref C) "__ne__" = some (some (.builtin "object.__ne__")))
    (h : wpAny (model prog w) A.in1 (call (.ref f) [.ref x, b]) (fun v s' => ∃ r, v = .bool r ∧ Q (.bool (!r)) s') E s) : wpAny (model prog w) A (richCompare .NotEq (.ref x) b) Q E s := by
  have one : wpAny (model prog w) A (tryCompare (.ref x) "__ne__" b) (fun r s' => ∃ v, r = some v ∧ Q v s') E s := by
    unfold tryCompare
    refine wpAny_bind (ifBound_ne X I hne (wpAny_call (codeAny_call_builtin F.cmp_object.ne.plain F.cmpEntry_ne (PySem.W.check_slot F.cmpKind_ne F.cmpSplit_ne (I.type.andThen (PySem.W.looks_mroIn X hm)) (F.cmpArgs_ne _ _)
      (entry_ne (A := A.in1) X I hs hf hu (wpAny_mono h (fun v s' hv => ?_) fun _ _ e => e))))))
    obtain ⟨r, rfl, hq⟩ := hv
    first
      | exact ⟨r, rfl, wpAny_pure ⟨_, rfl, hq⟩⟩
      | exact ⟨r, rfl, wpAny_pure (wpAny_pure ⟨_, rfl, hq⟩)⟩
      | exact ⟨r, rfl, _, rfl, hq⟩
  unfold richCompare
  simp only [oneThing_ref]
  refine wpAny_holding (wpAny_bind (wpAny_cRoomFor (Nat.lt_of_succ_lt hu) ?_))
  refine wpAny_bind (I.type.here (wpAny_bind (hb.here ?_)))
  split
  · rename_i q
    have e : PySem.W.subIn K tb (.ref C) = some false := by
      rcases Bool.or_eq_true_iff.mp hn with e | e
      · rw [beq_iff_eq.mp e] at q; simp at q
      · exact beq_iff_eq.mp e
    refine wpAny_bind ((PySem.W.looks_subIn X e).here ?_)
    simp only [Bool.false_eq_true, if_false]
    refine wpAny_bind (wpAny_mono one (fun r s' z => ?_) fun _ _ e => e)
    obtain ⟨v, rfl, hq⟩ := z
    exact wpAny_pure hq
  · refine wpAny_bind (wpAny_pure ?_)
    simp only [Bool.false_eq_true, if_false]
    refine wpAny_bind (wpAny_mono one (fun r s' z => ?_) fun _ _ e => e)
    obtain ⟨v, rfl, hq⟩ := z
    exact wpAny_pure hq
end
section
variable {X : Cx} {n : Nat} {CX : CXT} {C f : Addr} {fd : FuncData} {ps : List Str} {sp : Sp} {E : XK}
/-- a def of the text, called from below -/
theorem call_own (F : FnOk X.prog X.w X.K X.mg X.base CX n f fd ps sp) (hb : Binds X.K fd ps []) (hx : Passes CX X E) {A : Around} (sb : Sub X n A) {pins : List (Addr × Obj)} {σ : L2.St} {H : Hp} {s : Shared} (I : Inv X pins σ H s) {vs : List V} {us : List Value} (r2 : Vals vs us) {Q : VK} (hsp : sp vs H Q E) :
    wpAny (model X.prog X.w) A (call (.ref f) us) (fun v s' => ∃ z H', Inv X pins σ H' s' ∧ RelV z v ∧ Q z H') X.xe s := by
  have e0 : Env0 X.prog X.w X.K X.mg X.base A X.stack s H := by
    have e := I.env0
    exact ⟨by rw [sb.fr]; exact e.frames, e.mod, e.bs, e.bsz, e.funs, e.frf, e.hok, e.bare⟩
  have hl := F.len _ _ _ _ hsp
  refine wpAny_call (codeAny_mono (F.run A X.stack s H ⟨us, []⟩ us vs _ E sb.room e0 (by
    have := hb s us I.kIn (by rw [List.append_nil, ← r2.length]; exact hl)
    simpa using this) r2 hsp) fun r s' hq => ?_)
  cases r with
  | error e => exact hx pins σ H s e s' I hq
  | ok fl =>
    cases fl with
    | ret w =>
      obtain ⟨z, H', I', rz, ez⟩ := I.after hq
      exact ⟨z, H', I', rz, ez⟩
    | next => exact False.elim hq
    | brk => exact False.elim hq
    | cont => exact False.elim hq
/-- what == (neg: !=) of two instances of the class asks -/
def rOwn (C : Addr) (sp : Sp) (E : XK) (neg : Bool) : R2 := fun x y H Q => ∃ a b dx dy fs gs, x = .ref a ∧ y = .ref b ∧ H a = some (.ins C dx fs) ∧ H b = some (.ins C dy gs) ∧ sp [.ref a, .ref b] H (fun v H' => ∃ r, v = .bl r ∧ Q (.bl (neg != r)) H') E
theorem op_eqOwn (F : FnOk X.prog X.w X.K X.mg X.base CX n f fd ps sp) (hr : Room n X.A) (hs : PySem.W.findIn X.K (.ref C) "__eq__" = some (some (.ref f))) (hf : PySem.W.isFn X.K (.ref f) = true) (hb : Binds X.K fd ps []) (hx : Passes CX X E) : OpR X (compareOp .Eq) (rOwn C sp E false) := by
  intro pins s σ H x y v u Q I rx ry hq
  obtain ⟨a, b, dx, dy, fs, gs, rfl, rfl, ha, hb', hsp⟩ := hq
  cases rx
  cases ry
  obtain ⟨mA, J, _⟩ := ins_get I.hok ha
  obtain ⟨mB, J', _⟩ := ins_get I.hok hb'
  obtain ⟨od, J, _⟩ := J.look
  obtain ⟨od', J', _⟩ := J'.look
  have sb : Sub X n X.A := ⟨hr, rfl⟩
  have r2 : Vals [V.ref a, V.ref b] [Value.ref a, Value.ref b] := .cons rfl (.cons rfl .nil)
  obtain ⟨m, hF⟩ := I.fr
  show wpAny (model X.prog X.w) X.A (richCompare .Eq _ _) (EP X pins σ Q) X.xe s
  refine PySem.W.cmp_K (op := .Eq) (tb := .ref C) sb.room.units0 hF I.ok.mod.kin J J'.type (by simp [PySem.W.notFirst]) hs hf ?_
  refine wpAny_mono (call_own F hb hx sb I r2 hsp) (fun v s' hv => ?_) fun _ _ e => e
  obtain ⟨z, H', I', rz, r, rfl, q⟩ := hv
  cases rz
  exact ⟨.bl r, H', I', rfl, by cases r <;> exact q⟩
theorem op_neOwn (F : FnOk X.prog X.w X.K X.mg X.base CX n f fd ps sp) (hr : Room (n + 1) X.A) (hs : PySem.W.findIn X.K (.ref C) "__eq__" = some (some (.ref f))) (hf : PySem.W.isFn X.K (.ref f) = true) (hm : PySem.W.mroIn X.K C (.type "object") = some true)
    (hne : PySem.W.findIn X.K (.ref C) "__ne__" = some (some (.builtin "object.__ne__"))) (hb : Binds X.K fd ps []) (hx : Passes CX X E) : OpR X (compareOp .NotEq) (rOwn C sp E true) := by
  intro pins s σ H x y v u Q I rx ry hq
  obtain ⟨a, b, dx, dy, fs, gs, rfl, rfl, ha, hb', hsp⟩ := hq
  cases rx
  cases ry
  obtain ⟨mA, J, _⟩ := ins_get I.hok ha
  obtain ⟨mB, J', _⟩ := ins_get I.hok hb'
  obtain ⟨od, J, _⟩ := J.look
  obtain ⟨od', J', _⟩ := J'.look
  have sb : Sub X (n + 1) X.A := ⟨hr, rfl⟩
  have r2 : Vals [V.ref a, V.ref b] [Value.ref a, Value.ref b] := .cons rfl (.cons rfl .nil)
  show wpAny (model X.prog X.w) X.A (richCompare .NotEq _ _) (EP X pins σ Q) X.xe s
  refine rc_ne (tb := .ref C) sb.in1.room.units0 I.kIn J J'.type (by simp [PySem.W.notFirst]) hm hs hf hne ?_
  refine wpAny_mono (call_own F hb hx sb.in1 I r2 hsp) (fun v s' hv => ?_) fun _ _ e => e
  obtain ⟨z, H', I', rz, r, rfl, q⟩ := hv
  cases rz
  exact ⟨r, rfl, .bl (!r), H', I', rfl, by cases r <;> exact q⟩
end
end GN

/-! str(x) by an own __str__; == and != of an instance and a value of another type -/
namespace GS
open PySem PySem.Spec PyProof.Rows L2 GN
section
variable {X : Cx} {n : Nat} {CX : CXT} {C f : Addr} {fd : FuncData} {ps : List Str} {sp : Sp} {E : XK}
def rOth (K : PySem.W.Frag) (C : Addr) (sp : Sp) (E : XK) (neg : Bool) : R2 := fun x y H Q => ∃ a dx fs t, x = .ref a ∧ H a = some (.ins C dx fs) ∧ TyX K H y t ∧ PySem.W.notFirst K C t = true ∧ sp [.ref a, y] H (fun v H' => ∃ r, v = .bl r ∧ Q (.bl (neg != r)) H') E
theorem op_eqOth (F : FnOk X.prog X.w X.K X.mg X.base CX n f fd ps sp) (hr : Room n X.A) (hs : PySem.W.findIn X.K (.ref C) "__eq__" = some (some (.ref f))) (hf : PySem.W.isFn X.K (.ref f) = true) (hb : Binds X.K fd ps []) (hx : Passes CX X E) : OpR X (compareOp .Eq) (rOth X.K C sp E false) := by
  intro pins s σ H x y v u Q I rx ry hq
  obtain ⟨a, dx, fs, t, rfl, ha, ty, nf, hsp⟩ := hq
  cases rx
  obtain ⟨mA, J, _⟩ := ins_get I.hok ha
  obtain ⟨od, J, _⟩ := J.look
  obtain ⟨Pt, Z, p, _⟩ := kit_of I ry ty
  have sb : Sub X n X.A := ⟨hr, rfl⟩
  have r2 : Vals [V.ref a, y] [Value.ref a, u] := .cons rfl (.cons ry .nil)
  obtain ⟨m, hF⟩ := I.fr
  show wpAny (model X.prog X.w) X.A (richCompare .Eq _ _) (EP X pins σ Q) X.xe s
  refine PySem.W.cmp_K (op := .Eq) (tb := t) sb.room.units0 hF I.ok.mod.kin J (Z.ty _ _ I.kIn p) nf hs hf ?_
  refine wpAny_mono (call_own F hb hx sb I r2 hsp) (fun v s' hv => ?_) fun _ _ e => e
  obtain ⟨z, H', I', rz, r, rfl, q⟩ := hv
  cases rz
  exact ⟨.bl r, H', I', rfl, by cases r <;> exact q⟩
theorem op_neOth (F : FnOk X.prog X.w X.K X.mg X.base CX n f fd ps sp) (hr : Room (n + 1) X.A) (hs : PySem.W.findIn X.K (.ref C) "__eq__" = some (some (.ref f))) (hf : PySem.W.isFn X.K (.ref f) = true) (hm : PySem.W.mroIn X.K C (.type "object") = some true)
    (hne : PySem.W.findIn X.K (.ref C) "__ne__" = some (some (.builtin "object.__ne__"))) (hb : Binds X.K fd ps []) (hx : Passes CX X E) : OpR X (compareOp .NotEq) (rOth X.K C sp E true) := by
  intro pins s σ H x y v u Q I rx ry hq
  obtain ⟨a, dx, fs, t, rfl, ha, ty, nf, hsp⟩ := hq
  cases rx
  obtain ⟨mA, J, _⟩ := ins_get I.hok ha
  obtain ⟨od, J, _⟩ := J.look
  obtain ⟨Pt, Z, p, _⟩ := kit_of I ry ty
  have sb : Sub X (n + 1) X.A := ⟨hr, rfl⟩
  have r2 : Vals [V.ref a, y] [Value.ref a, u] := .cons rfl (.cons ry .nil)
  show wpAny (model X.prog X.w) X.A (richCompare .NotEq _ _) (EP X pins σ Q) X.xe s
  refine rc_ne (tb := t) sb.in1.room.units0 I.kIn J (Z.ty _ _ I.kIn p) nf hm hs hf hne ?_
  refine wpAny_mono (call_own F hb hx sb.in1 I r2 hsp) (fun v s' hv => ?_) fun _ _ e => e
  obtain ⟨z, H', I', rz, r, rfl, q⟩ := hv
  cases rz
  exact ⟨r, rfl, .bl (!r), H', I', rfl, by cases r <;> exact q⟩
/-- str(x) of an instance whose class has a __str__ of its own -/
def rStrOwn (C : Addr) (sp : Sp) (E : XK) : List V → Hp → VK → Prop := fun vs H Q => ∃ a dx fs, vs = [.ref a] ∧ H a = some (.ins C dx fs) ∧ sp [.ref a] H (fun v H' => ∃ z : Str, v = .str z ∧ Q (.str z) H') E
theorem cr_strOwn (F : FnOk X.prog X.w X.K X.mg X.base CX n f fd ps sp) (hr : Room (n + 2) X.A) (hs : PySem.W.findIn X.K (.ref C) "__str__" = some (some (.ref f))) (hf : PySem.W.isFn X.K (.ref f) = true) (hb : Binds X.K fd ps []) (hx : Passes CX X E) : CallR X (.type "str") (rStrOwn C sp E) := by
  intro pins s σ H vs us Q I r h
  obtain ⟨a, dx, fs, rfl, ha, hsp⟩ := h
  have er : us = [Value.ref a] := Vals.ref1 r
  subst er
  obtain ⟨mA, J, _⟩ := ins_get I.hok ha
  obtain ⟨od, J, _⟩ := J.look
  have sb : Sub X (n + 2) X.A := ⟨hr, rfl⟩
  have r2 : Vals [V.ref a] [Value.ref a] := .cons rfl .nil
  refine PySem.W.kso_call sb.in1.in1.room.units0 I.kIn J hs hf ?_
  refine wpAny_mono (call_own F hb hx sb.in1.in1 I r2 hsp) (fun v s' hv => ?_) fun _ _ e => e
  obtain ⟨z, H', I', rz, y, rfl, q⟩ := hv
  obtain ⟨t, rfl⟩ := rz
  exact ⟨.str y, H', I', ⟨t, rfl⟩, q⟩
end
end GS

/-! xs[::-1] of a list -/
namespace GR
open PySem PySem.Spec PyProof.Rows L2
def tBack (K : PySem.W.Frag) (te : TE) (tk : TO) : TE := fun σ H Q => te σ H fun v H1 => tk σ H1 fun o H2 => o = some (-1) ∧ ∃ a xs, v = .ref a ∧ SqL K H2 a xs ∧ ∀ p, H2 p = none → Q (.ref p) (upd H2 p (.lst xs.reverse))
theorem pe_back {X : Cx} {e st : Expr} {te : TE} {tk : TO} {p2 pos : Pos} (he : PE X e te) (hk : PO X (some st) tk) : PE X (.Subscript e (.Slice none none (some st) p2) pos) (tBack X.K te tk) := by
  refine ⟨fun pins s σ H Q I h => ?_⟩
  refine Subscript_ (thn (he.run pins s σ H _ I h) fun v s1 ⟨x, H1, I1, r1, q1⟩ => ?_)
  refine wpAny_Slice ?_
  rw [evalPart_none]
  refine wpAny_pure ?_
  refine wpAny_pure ?_
  refine thn (hk.run pins s1 σ H1 _ I1 q1) fun vk s2 ⟨o, H2, I2, pk, q2⟩ => ?_
  obtain ⟨rfl, a, xs, rfl, hx, q⟩ := q2
  have I4 : Inv X pins σ H2 { s2 with heap := s2.heap.push { cls := .type "slice", data := .fields #[.none, .none, vk] } } := I2.kept (t' := s2.toks) fun b ob q => Heap.get?_push_of_some _ q
  cases r1
  obtain ⟨its, r, ht, hz⟩ := I4.list hx
  have hlen := r.length
  have hs : ({ s2 with heap := s2.heap.push { cls := .type "slice", data := .fields #[.none, .none, vk] } } : Shared).heap.IsSliceOf s2.heap.objs.size .none .none vk := Heap.IsSliceOf.new ..
  have hg : wpAny (model X.prog X.w) X.A (getItem (.ref a) (.ref s2.heap.objs.size)) (EP X pins σ Q) X.xe { s2 with heap := s2.heap.push { cls := .type "slice", data := .fields #[.none, .none, vk] } } := by
    refine wpAny_getItem_list_slice ht.isList hs .none .none pk (by simp) ?_ (by rw [List.size_toArray] <;> omega)
    rw [PySem.W.krv_pick]
    refine ⟨.ref _, _, I4.laid (t' := s2.toks) (o := .lst xs.reverse) (fun b ob q => Heap.get?_push_of_some _ q) (Nat.le_refl _) ?_, rfl, q _ (I4.hok.fresh (Nat.le_refl _))⟩
    exact ⟨by rw [List.length_reverse]; exact hz, _, 0, r.reverse, Heap.get?_push_size _ rfl⟩
  show wpAny (model X.prog X.w) X.A (subscriptTail e (.Slice none none (some st) p2) (.ref a) (.ref s2.heap.objs.size)) (EP X pins σ Q) X.xe _
  exact tail_any (ops := [.ref a, .ref s2.heap.objs.size]) ht.isList.typeIs slot_list_getitem.lookup hg (by with_unfolding_all rfl)
end GR

set_option pp.maxSteps 900
/-! k80: what the top has written; the text of a table -/
namespace H8T
open PySem PySem.Spec PyProof.Rows L2 KA KD KL PH PM PA PB PC RM RN RS QE QF QG QH K20 K52b UJN VQ WF2 WP XU H8W H8V
open XT hiding pairs_get
open K9 (Cn cn_one)
open WN (ti ti_len ti_log len_app join_len sum_le)
abbrev sTS : Stmt := inClass sTable 5
abbrev sLaw : Stmt := topS 40
theorem scTS : FnScope ["self", "low", "high", "amount"] ["self"] (defScope sTS) := ⟨rfl, rfl, rfl, by decide +kernel, rfl, by decide +kernel, by decide +kernel⟩
theorem scLaw : FnScope ["script", "k", "feed", "turn", "pieces", "piece", "some", "far", "entries", "low", "high", "amount", "table", "seen", "text", "again", "left", "order", "load", "place", "open_wear", "closed_wear", "one"] ["script"] (defScope H8T.sLaw) := ⟨rfl, rfl, rfl, by decide +kernel, rfl, by decide +kernel, by decide +kernel⟩
/-- small entries -/
def Sml (T : List Ent) : Prop := ∀ e ∈ T, e.1.natAbs < 2 ^ 39 ∧ e.2.1.natAbs < 2 ^ 39 ∧ e.2.2.natAbs < 2 ^ 39
def txE (e : Ent) : Str := ((((Str.empty ++ ti e.1) ++ " ") ++ ti e.2.1) ++ " ") ++ ti e.2.2
theorem bl_len : ((" " : Str)).length = 1 := by decide +kernel
theorem txE_len {e : Ent} (h : e.1.natAbs < 2 ^ 39 ∧ e.2.1.natAbs < 2 ^ 39 ∧ e.2.2.natAbs < 2 ^ 39) : (txE e).length ≤ 41 := by
  unfold txE
  have h1 := ti_len h.1
  have h2 := ti_len h.2.1
  have h3 := ti_len h.2.2
  have h0 : (Str.empty).length = 0 := rfl
  have hc := bl_len
  rw [len_app, len_app, len_app, len_app, len_app]
  omega
def ttx (T : List Ent) : Str := Txt.join "\n" (T.map txE)
section
variable {P : Program} {w : World} {K : PySem.W.Frag} {mg : Str → Option Value} {base : Heap} {C : Addr}
def teE : TE := fun σ H Q => tJs [tFmt (tVar 1), tC (V.str " "), tFmt (tVar 2), tC (V.str " "), tFmt (tVar 3)] Str.empty σ H fun out H1 => Q (.str out) H1
def spTS (C : Addr) : Sp := fun vs H Q _ => ∃ (x : Addr) (T : List Ent), vs = [.ref x] ∧ TabAt H C x T ∧ T.length ≤ 100 ∧ Sml T ∧ ∀ H', Same H H' → Q (.str (ttx T)) H'
theorem ok_TS {f : Addr} {fd : FuncData} {k : Nat} (F : Fun K "__str__" "Table.__str__" sTS f fd) (T : Tbl K C) : FnOk P w K mg base CX0 (k + 1) f fd ["self"] (spTS C) := by
  refine F.ok scTS (fun vs H Q E h => ?_) (fun cdv A outer s H vs Q E hr h => ?_)
  · obtain ⟨x, T, rfl, _⟩ := h
    rfl
  · obtain ⟨x, es, rfl, ⟨dx, t, ys, hx, ht, tr⟩, le, sm, q⟩ := h
    refine ⟨_, pss_one (ps_ret (pe_join pe_str (pe_lc (own := [("low", 1), ("high", 2), ("amount", 3)]) (g := gTup K 3 (gCons (gName 1) (gCons (gName 2) (gCons (gName 3) gNil)))) (tt := tYes) (te := teE) rfl scTS.nd (pi_tup (pe_fld (pv 0) rfl)) (blkOk_by (own := [("low", 1), ("high", 2), ("amount", 3)]) (N := ["self", "low", "high", "amount"]) (sc := defScope sTS) (by decide +kernel)) (fun _ _ _ _ _ => (pg_tup rfl (pgs_cons (pg_name (i := 1) scTS.nd rfl (Or.inl rfl) (Or.inr rfl)) (pgs_cons (pg_name (i := 2) scTS.nd rfl (Or.inl rfl) (Or.inr rfl)) (pgs_cons (pg_name (i := 3) scTS.nd rfl (Or.inl rfl) (Or.inr rfl)) pgs_nil))))) (fun _ _ _ _ _ => pts_nil) (fun _ _ _ _ _ => (pe_joined (.cons (pe_fmt (pv 1)) (.cons pe_str (.cons (pe_fmt (pv 2)) (.cons pe_str (.cons (pe_fmt (pv 3)) .nil)))))))))), ?_⟩
    have hl := tr.length
    refine ⟨⟨_, rfl⟩, .ref x, rfl, x, C, dx, _, .ref t, rfl, hx, T.cl, T.nE, rfl, t, rfl, ⟨_, SqT.of ht⟩, fun D nD => ?_⟩
    refine lc_tup (K := K) (a := t) (xs := ys) (fun i Hz => Hz = upd H D (.lst (((es.take i).map txE).map V.str))) rfl (fun i Hz _ e => by rw [e]; exact SqT.of ((same_new nD) _ _ ht)) ?_ ?_
    · rintro i y Hz hy rfl
      obtain ⟨p, e, rfl, er, hp⟩ := tr.get hy
      have hp2 := (same_new (o := .lst (((es.take i).map txE).map V.str)) nD) _ _ hp
      have hr := sm e (List.mem_of_getElem? er)
      refine ⟨p, _, rfl, SqT.of hp2, rfl, .int e.1, [.int e.2.1, .int e.2.2], rfl, .int e.2.1, [.int e.2.2], rfl, .int e.2.2, [], rfl, rfl, rfl, iteT (B := True) ?_⟩
      have h0 : (Str.empty).length = 0 := rfl
      have l1 := ti_len hr.1
      have l2 := ti_len hr.2.1
      have l3 := ti_len hr.2.2
      have hc := bl_len
      have sl : ∀ {n : Nat}, n ≤ 100 → n ≤ sizeLine := fun h => Nat.le_trans h (by decide)
      refine ⟨.int e.1, rfl, .inr ⟨e.1, rfl, ti_log hr.1, ti e.1, rfl, sl (by rw [len_app]; omega), " ", rfl, sl (by rw [len_app, len_app]; omega), .int e.2.1, rfl, .inr ⟨e.2.1, rfl, ti_log hr.2.1, ti e.2.1, rfl, sl (by rw [len_app, len_app, len_app]; omega), " ", rfl, sl (by rw [len_app, len_app, len_app, len_app]; omega), .int e.2.2, rfl, .inr ⟨e.2.2, rfl, ti_log hr.2.2, ti e.2.2, rfl, sl (by rw [len_app, len_app, len_app, len_app, len_app]; omega), _, upd_same, ?_, ?_⟩⟩⟩⟩
      · rw [List.length_map, List.length_map, List.length_take]
        exact Nat.lt_of_le_of_lt (show _ ≤ 2500 by omega) (by decide)
      · rw [upd_upd, List.take_add_one, er, List.map_append, List.map_append]
        rfl
    rintro Hz rfl
    rw [hl, List.take_length]
    refine ⟨_, D, es.map txE, rfl, rfl, .inl (SqL.of upd_same), ?_, ?_⟩
    · have h1 := sum_le (B := 41) (xs := es.map txE) fun x hx => by
        obtain ⟨r, hr, e⟩ := List.mem_map.mp hx
        rw [← e]
        exact txE_len (sm r hr)
      have h2 : (("\n" : Str)).length = 1 := by decide +kernel
      rw [h2, List.length_map] at *
      omega
    · exact q _ (same_new (o := .lst ((es.map txE).map V.str)) nD)
end
structure Txt (K : PySem.W.Frag) (mg : Str → Option Value) (fRG fTP fIL fBT fSW fMT fPB fCN fCP fCC fHC fFE fTA fPI fLO fLP fLR fLH fPL fCT fHV fIV fEN fAm fWe fCl fDu fWO C fIN pO fOF pC fPC p3 fPH CT_ fUI fUA fUW fUS : Addr) (dRG dTP dIL dBT dSW dMT dPB dCN dCP dCC dHC dFE dTA dPI dLO dLP dLR dLH dPL dCT dHV dIV dEN dAm dWe dCl dDu dWO dIN dOF dPC dPH dUI dUA dUW dUS : FuncData) : Prop where
  FRG : Fun K "range_of" "range_of" sRng fRG dRG
  gRG : mg "range_of" = some (.ref fRG)
  kRG : PySem.W.keepIn K (.ref fRG) = true
  bRG : Binds K dRG ["one", "other"] []
  FTP : Fun K "turning_points" "turning_points" sTP fTP dTP
  gTP : mg "turning_points" = some (.ref fTP)
  kTP : PySem.W.keepIn K (.ref fTP) = true
  bTP : Binds K dTP ["load"] []
  FIL : Fun K "is_left_out" "is_left_out" sLO fIL dIL
  gIL : mg "is_left_out" = some (.ref fIL)
  kIL : PySem.W.keepIn K (.ref fIL) = true
  bIL : Binds K dIL ["points", "reading"] []
  FBT : Fun K "_lies_between" "_lies_between" sBtw fBT dBT
  gBT : mg "_lies_between" = some (.ref fBT)
  kBT : PySem.W.keepIn K (.ref fBT) = true
  bBT : Binds K dBT ["reading", "before", "after"] []
  FSW : Fun K "swings" "swings" sSw fSW dSW
  gSW : mg "swings" = some (.ref fSW)
  kSW : PySem.W.keepIn K (.ref fSW) = true
  bSW : Binds K dSW ["load"] []
  FMT : Fun K "_may_be_taken" "_may_be_taken" sMT fMT dMT
  gMT : mg "_may_be_taken" = some (.ref fMT)
  kMT : PySem.W.keepIn K (.ref fMT) = true
  bMT : Binds K dMT ["points", "place"] []
  FPB : Fun K "put_behind" "put_behind" sPB fPB dPB
  gPB : mg "put_behind" = some (.ref fPB)
  kPB : PySem.W.keepIn K (.ref fPB) = true
  bPB : Binds K dPB ["rest", "reading"] []
  FCN : Fun K "_counted" "_counted" sCo fCN dCN
  gCN : mg "_counted" = some (.ref fCN)
  kCN : PySem.W.keepIn K (.ref fCN) = true
  bCN : Binds K dCN ["load"] []
  FCP : Fun K "closed_points" "closed_points" sCP fCP dCP
  gCP : mg "closed_points" = some (.ref fCP)
  kCP : PySem.W.keepIn K (.ref fCP) = true
  bCP : Binds K dCP ["load"] []
  FCC : Fun K "closed_cycles" "closed_cycles" sCC fCC dCC
  gCC : mg "closed_cycles" = some (.ref fCC)
  kCC : PySem.W.keepIn K (.ref fCC) = true
  bCC : Binds K dCC ["load"] []
  FHC : Fun K "_half_cycles" "_half_cycles" sHC fHC dHC
  gHC : mg "_half_cycles" = some (.ref fHC)
  kHC : PySem.W.keepIn K (.ref fHC) = true
  bHC : Binds K dHC ["pieces", "order", "closed"] []
  FFE : Fun K "_law_feed" "_law_feed" sFeed fFE dFE
  gFE : mg "_law_feed" = some (.ref fFE)
  kFE : PySem.W.keepIn K (.ref fFE) = true
  bFE : Binds K dFE ["script", "k"] []
  FTA : Fun K "_law_take" "_law_take" sTake fTA dTA
  gTA : mg "_law_take" = some (.ref fTA)
  kTA : PySem.W.keepIn K (.ref fTA) = true
  bTA : Binds K dTA ["feed", "many"] []
  FPI : Fun K "_law_pick" "_law_pick" sPick fPI dPI
  gPI : mg "_law_pick" = some (.ref fPI)
  kPI : PySem.W.keepIn K (.ref fPI) = true
  bPI : Binds K dPI ["feed", "some"] []
  FLO : Fun K "_law_load" "_law_load" sLoad fLO dLO
  gLO : mg "_law_load" = some (.ref fLO)
  kLO : PySem.W.keepIn K (.ref fLO) = true
  bLO : Binds K dLO ["feed", "most"] []
  FLP : Fun K "_law_points" "_law_points" sLP fLP dLP
  gLP : mg "_law_points" = some (.ref fLP)
  kLP : PySem.W.keepIn K (.ref fLP) = true
  bLP : Binds K dLP ["load"] []
  FLR : Fun K "_law_range" "_law_range" sLR fLR dLR
  gLR : mg "_law_range" = some (.ref fLR)
  kLR : PySem.W.keepIn K (.ref fLR) = true
  bLR : Binds K dLR ["one", "other"] []
  FLH : Fun K "_law_holds" "_law_holds" sLH fLH dLH
  gLH : mg "_law_holds" = some (.ref fLH)
  kLH : PySem.W.keepIn K (.ref fLH) = true
  bLH : Binds K dLH ["outer", "inner"] []
  FPL : Fun K "_law_places" "_law_places" sPl fPL dPL
  gPL : mg "_law_places" = some (.ref fPL)
  kPL : PySem.W.keepIn K (.ref fPL) = true
  bPL : Binds K dPL ["points"] []
  FCT : Fun K "_law_count" "_law_count" sCt fCT dCT
  gCT : mg "_law_count" = some (.ref fCT)
  kCT : PySem.W.keepIn K (.ref fCT) = true
  bCT : Binds K dCT ["feed", "load"] []
  FHV : Fun K "_law_halves" "_law_halves" sHv fHV dHV
  gHV : mg "_law_halves" = some (.ref fHV)
  kHV : PySem.W.keepIn K (.ref fHV) = true
  bHV : Binds K dHV ["cycles", "rest"] []
  FIV : Fun K "_law_interval" "_law_interval" sIv fIV dIV
  gIV : mg "_law_interval" = some (.ref fIV)
  kIV : PySem.W.keepIn K (.ref fIV) = true
  bIV : Binds K dIV ["feed", "most"] []
  FEN : Fun K "_law_entries" "_law_entries" sEn fEN dEN
  gEN : mg "_law_entries" = some (.ref fEN)
  kEN : PySem.W.keepIn K (.ref fEN) = true
  bEN : Binds K dEN ["feed", "most"] []
  FAm : Fun K "_law_amount" "_law_amount" sAm fAm dAm
  gAm : mg "_law_amount" = some (.ref fAm)
  kAm : PySem.W.keepIn K (.ref fAm) = true
  bAm : Binds K dAm ["entries", "low", "high"] []
  FWe : Fun K "_law_wear" "_law_wear" sWe fWe dWe
  gWe : mg "_law_wear" = some (.ref fWe)
  kWe : PySem.W.keepIn K (.ref fWe) = true
  bWe : Binds K dWe ["entries", "ranges"] []
  FCl : Fun K "_law_closed" "_law_closed" sCl fCl dCl
  gCl : mg "_law_closed" = some (.ref fCl)
  kCl : PySem.W.keepIn K (.ref fCl) = true
  bCl : Binds K dCl ["load"] []
  FDu : Fun K "_law_due" "_law_due" sDu fDu dDu
  gDu : mg "_law_due" = some (.ref fDu)
  kDu : PySem.W.keepIn K (.ref fDu) = true
  bDu : Binds K dDu ["feed", "load", "entries", "is_round"] []
  FWO : FunD K "wear_of" "wear_of" (defArgs sWO) (defBody sWO) (defScope sWO) [] [("closed", (V.bl false))] fWO dWO
  gWO : mg "wear_of" = some (.ref fWO)
  kWO : PySem.W.keepIn K (.ref fWO) = true
  bWO : Binds K dWO ["pieces", "order", "table", "closed"] [(Value.bool false)]
  kbWO : KBn K dWO ["pieces", "order", "table", "closed"] 3 ["closed"] (fun us ws => us ++ ws) (fun vs zs => vs ++ zs)
  gC : mg "Count" = some (.ref C)
  cn : Cnt K C
  mkc : Mk K C fIN
  FIN : Fun K "__init__" "Count.__init__" sInit fIN dIN
  bIN : Binds K dIN ["self", "cycles", "rest"] []
  rd : ClX.CRead K C (.type "type")
  cm : ClX.CMet K C (.type "type") "of" pO fOF
  FOF : Fun K "of" "Count.of" sOf fOF dOF
  bOF : Binds K dOF ["cls", "load"] []
  prC : PropOf K C "cycles" pC fPC
  FPC : Fun K "cycles" "Count.cycles" sPC fPC dPC
  bPC : Binds K dPC ["self"] []
  prH : PropOf K C "half_cycles" p3 fPH
  FPH : Fun K "half_cycles" "Count.half_cycles" sPH fPH dPH
  bPH : Binds K dPH ["self"] []
  gCT_ : mg "Table" = some (.ref CT_)
  tbl : Tbl K CT_
  mkT : Mk K CT_ fUI
  FUI : Fun K "__init__" "Table.__init__" sTI fUI dUI
  bUI : Binds K dUI ["self", "entries"] []
  mUA : Meth K CT_ "amount" fUA
  FUA : Fun K "amount" "Table.amount" sTA fUA dUA
  bUA : Binds K dUA ["self", "low", "high"] []
  mUW : Meth K CT_ "wear" fUW
  FUW : Fun K "wear" "Table.wear" sTW fUW dUW
  bUW : Binds K dUW ["self", "ranges"] []
  fnUS : PySem.W.findIn K (.ref CT_) "__str__" = some (some (.ref fUS))
  iUS : PySem.W.isFn K (.ref fUS) = true
  FUS : Fun K "__str__" "Table.__str__" H8T.sTS fUS dUS
  bUS : Binds K dUS ["self"] []
  len : mg "len" = none
  zip : mg "zip" = none
  max : mg "max" = none
  min : mg "min" = none
  abs : mg "abs" = none
  range : mg "range" = none
  sorted : mg "sorted" = none
  tuple : mg "tuple" = none
  list : mg "list" = none
  int : mg "int" = none
  repr : mg "repr" = none
  str : mg "str" = none
  sum : mg "sum" = none
end H8T

set_option pp.maxSteps 900
/-! k80's law -/
namespace H8L
open PySem PySem.Spec PyProof.Rows L2 KA KD KL PH PM PA PB PC RM RN RS QE QF QG QH K20 K52b UJN VQ WF2 WP XU H8W H8V
open XT hiding pairs_get
open K9 (Cn cn_one)
open WN (ti ti_len ti_log len_app join_len sum_le) 
open H8T
def pkO (t : List Int × Bool) : HO := if t.2 = true then .tup (t.1.map V.int) else .lst (t.1.map V.int)
def dPk (t : List Int × Bool) : PyData := if t.2 = true then .tuple (dInts t.1) else .list (dInts t.1)
/-- pieces stand, lists or tuples as is told -/
def PkAt (f P : Addr) (H : Hp) : List V → List (List Int × Bool) → Prop
  | [], [] => True
  | x :: xs, t :: ts => (∃ a, x = .ref a ∧ a ≠ f ∧ a ≠ P ∧ H a = some (pkO t)) ∧ PkAt f P H xs ts
  | _, _ => False
theorem PkAt.map {f P : Addr} {H H' : Hp} (k : ∀ a o, a ≠ f → a ≠ P → H a = some o → H' a = some o) : ∀ {xs : List V} {ts : List (List Int × Bool)}, PkAt f P H xs ts → PkAt f P H' xs ts
  | [], [], _ => trivial
  | _ :: _, _ :: _, ⟨⟨a, e, n1, n2, h⟩, r⟩ => ⟨⟨a, e, n1, n2, k a _ n1 n2 h⟩, r.map k⟩
  | [], _ :: _, h => h.elim
  | _ :: _, [], h => h.elim
theorem PkAt.len {f P : Addr} {H : Hp} : ∀ {xs : List V} {ts : List (List Int × Bool)}, PkAt f P H xs ts → xs.length = ts.length
  | [], [], _ => rfl
  | _ :: _, _ :: _, ⟨_, r⟩ => congrArg (· + 1) r.len
  | [], _ :: _, h => h.elim
  | _ :: _, [], h => h.elim
theorem PkAt.snoc {f P : Addr} {H : Hp} {a : Addr} {t : List Int × Bool} (n1 : a ≠ f) (n2 : a ≠ P) (h2 : H a = some (pkO t)) : ∀ {xs : List V} {ts : List (List Int × Bool)}, PkAt f P H xs ts → PkAt f P H (xs ++ [.ref a]) (ts ++ [t])
  | [], [], _ => ⟨⟨a, rfl, n1, n2, h2⟩, trivial⟩
  | _ :: _, _ :: _, ⟨h, r⟩ => ⟨h, r.snoc n1 n2 h2⟩
  | [], _ :: _, h => h.elim
  | _ :: _, [], h => h.elim
theorem PkAt.pcs {K : PySem.W.Frag} {f P : Addr} {H : Hp} : ∀ {xs : List V} {ts : List (List Int × Bool)}, PkAt f P H xs ts → PcsAt K H xs (ts.map (·.1))
  | [], [], _ => trivial
  | _ :: _, t :: _, ⟨⟨a, e, _, _, h⟩, r⟩ => ⟨⟨a, e, by
      unfold pkO at h
      by_cases b : t.2 = true
      · rw [if_pos b] at h; exact .inr (SqT.of h)
      · rw [if_neg b] at h; exact .inl (SqL.of h)⟩, r.pcs⟩
  | [], _ :: _, h => h.elim
  | _ :: _, [], h => h.elim
theorem dp_pk {K : PySem.W.Frag} {f P : Addr} {H : Hp} : ∀ {xs : List V} {ts : List (List Int × Bool)}, PkAt f P H xs ts → DpAll K H xs (ts.map dPk)
  | [], [], _ => .nil
  | _ :: _, t :: _, ⟨⟨a, e, _, _, h⟩, r⟩ => by
    subst e
    refine .cons ?_ (dp_pk r)
    unfold pkO at h
    unfold dPk
    by_cases b : t.2 = true
    · rw [if_pos b] at h ⊢; exact .tup (SqT.of h) (dp_ints _)
    · rw [if_neg b] at h ⊢; exact .lst (SqL.of h) (dp_ints _)
  | [], _ :: _, h => h.elim
  | _ :: _, [], h => h.elim
def PkS (ts : List (List Int × Bool)) : Prop := ∀ t ∈ ts, t.1.length ≤ 30 ∧ ∀ n ∈ t.1, n.natAbs < 2 ^ 39
theorem nice_pk1 {t : List Int × Bool} (h : t.1.length ≤ 30 ∧ ∀ n ∈ t.1, n.natAbs < 2 ^ 39) : (dPk t).showable = true ∧ (dPk t).hasDict = false ∧ (dPk t).depth ≤ 3 ∧ (dPk t).leavesShort 13 = true ∧ (dPk t).weight ≤ 1800 := by
  have a1 := KG.show_all t.1 fun m hm => Nat.lt_trans (h.2 m hm) (by decide)
  have a2 := KG.nodict_all t.1
  have a3 := KG.depth_all t.1
  have a4 := KG.leaves_all t.1 fun n hn => Nat.lt_trans (h.2 n hn) (by decide)
  have a5 := KG.weight_all t.1 h.2
  have hl := h.1
  unfold dPk dInts
  split
  · refine ⟨?_, ?_, ?_, ?_, ?_⟩
    · simp only [PyData.showable]; exact a1
    · simp only [PyData.hasDict]; exact a2
    · simp only [PyData.depth]; omega
    · simp only [PyData.leavesShort]; exact a4
    · simp only [PyData.weight]; omega
  · refine ⟨?_, ?_, ?_, ?_, ?_⟩
    · simp only [PyData.showable]; exact a1
    · simp only [PyData.hasDict]; exact a2
    · simp only [PyData.depth]; omega
    · simp only [PyData.leavesShort]; exact a4
    · simp only [PyData.weight]; omega
theorem pk_all : ∀ {ts : List (List Int × Bool)}, PkS ts → PyData.showableAll (ts.map dPk) = true ∧ PyData.hasDictAll (ts.map dPk) = false ∧ PyData.depthAll (ts.map dPk) ≤ 3 ∧ PyData.leavesShortAll 13 (ts.map dPk) = true ∧ PyData.weightAll (ts.map dPk) ≤ 1801 * ts.length
  | [], _ => ⟨rfl, rfl, Nat.zero_le _, rfl, Nat.le_refl _⟩
  | t :: ts, h => by
    obtain ⟨b1, b2, b3, b4, b5⟩ := pk_all (ts := ts) fun x hx => h x (List.mem_cons_of_mem _ hx)
    obtain ⟨a1, a2, a3, a4, a5⟩ := nice_pk1 (h t List.mem_cons_self)
    rw [List.map_cons]
    refine ⟨?_, ?_, ?_, ?_, ?_⟩
    · simp only [PyData.showableAll, a1, b1, Bool.and_self]
    · simp only [PyData.hasDictAll, a2, b2, Bool.or_self]
    · simp only [PyData.depthAll]; omega
    · simp only [PyData.leavesShortAll, a4, b4, Bool.and_self]
    · simp only [PyData.weightAll, List.length_cons]; omega
theorem nice_pk {ts : List (List Int × Bool)} (h : PkS ts) (hl : ts.length ≤ 7) : Nice (.list (ts.map dPk)) := by
  obtain ⟨b1, b2, b3, b4, b5⟩ := pk_all h
  refine ⟨by simp only [PyData.showable]; exact b1, by simp only [PyData.hasDict]; exact b2, by simp only [PyData.depth]; omega, ?_⟩
  refine PyData.shown_fits (B := 13) (by decide) (by decide) (by simp only [PyData.leavesShort]; exact b4) ?_
  simp only [PyData.weight]
  omega
theorem trips_all : ∀ {es : List Ent}, Sml es → PyData.showableAll (dTrips es) = true ∧ PyData.hasDictAll (dTrips es) = false ∧ PyData.leavesShortAll 13 (dTrips es) = true ∧ PyData.weightAll (dTrips es) ≤ 200 * es.length
  | [], _ => ⟨rfl, rfl, rfl, Nat.le_refl _⟩
  | e :: es, h => by
    obtain ⟨b1, b2, b4, b5⟩ := trips_all (es := es) fun x hx => h x (List.mem_cons_of_mem _ hx)
    have he := h e List.mem_cons_self
    have s1 := show_int he.1
    have s2 := show_int he.2.1
    have s3 := show_int he.2.2
    have l1 := leaf_int he.1
    have l2 := leaf_int he.2.1
    have l3 := leaf_int he.2.2
    have w1 := weight_int he.1
    have w2 := weight_int he.2.1
    have w3 := weight_int he.2.2
    have ed : dTrips (e :: es) = .tuple [.int e.1, .int e.2.1, .int e.2.2] :: dTrips es := rfl
    rw [ed]
    have es1 : PyData.showable (.tuple [.int e.1, .int e.2.1, .int e.2.2]) = true := by
      show PyData.showableAll [.int e.1, .int e.2.1, .int e.2.2] = true
      have x : PyData.showableAll [.int e.1, .int e.2.1, .int e.2.2] = (PyData.showable (.int e.1) && (PyData.showable (.int e.2.1) && (PyData.showable (.int e.2.2) && true))) := by simp only [PyData.showableAll]
      rw [x, s1, s2, s3]; rfl
    have es3 : PyData.leavesShort 13 (.tuple [.int e.1, .int e.2.1, .int e.2.2]) = true := by
      have x0 : PyData.leavesShort 13 (.tuple [.int e.1, .int e.2.1, .int e.2.2]) = PyData.leavesShortAll 13 [.int e.1, .int e.2.1, .int e.2.2] := by simp only [PyData.leavesShort]
      have x : PyData.leavesShortAll 13 [.int e.1, .int e.2.1, .int e.2.2] = (PyData.leavesShort 13 (.int e.1) && (PyData.leavesShort 13 (.int e.2.1) && (PyData.leavesShort 13 (.int e.2.2) && true))) := by simp only [PyData.leavesShortAll]
      rw [x0, x, l1, l2, l3]; rfl
    have es4 : PyData.weight (.tuple [.int e.1, .int e.2.1, .int e.2.2]) = PyData.weight (.int e.1) + 1 + (PyData.weight (.int e.2.1) + 1 + (PyData.weight (.int e.2.2) + 1 + 0)) := by simp only [PyData.weight, PyData.weightAll]
    have x1 : PyData.showableAll (.tuple [.int e.1, .int e.2.1, .int e.2.2] :: dTrips es) = (PyData.showable (.tuple [.int e.1, .int e.2.1, .int e.2.2]) && PyData.showableAll (dTrips es)) := by
      conv => lhs; unfold PyData.showableAll
    have x2 : PyData.hasDictAll (.tuple [.int e.1, .int e.2.1, .int e.2.2] :: dTrips es) = (PyData.hasDict (.tuple [.int e.1, .int e.2.1, .int e.2.2]) || PyData.hasDictAll (dTrips es)) := by
      conv => lhs; unfold PyData.hasDictAll
    have x3 : PyData.leavesShortAll 13 (.tuple [.int e.1, .int e.2.1, .int e.2.2] :: dTrips es) = (PyData.leavesShort 13 (.tuple [.int e.1, .int e.2.1, .int e.2.2]) && PyData.leavesShortAll 13 (dTrips es)) := by
      conv => lhs; unfold PyData.leavesShortAll
    have x4 : PyData.weightAll (.tuple [.int e.1, .int e.2.1, .int e.2.2] :: dTrips es) = PyData.weight (.tuple [.int e.1, .int e.2.1, .int e.2.2]) + 1 + PyData.weightAll (dTrips es) := by
      conv => lhs; unfold PyData.weightAll
    refine ⟨?_, ?_, ?_, ?_⟩
    · rw [x1, es1, b1]; rfl
    · rw [x2, b2]; simp only [PyData.hasDict, PyData.hasDictAll, Bool.or_self]
    · rw [x3, es3, b4]; rfl
    · rw [x4, es4, List.length_cons]; omega
def CpOk (s : Str) : Prop := ∀ c ∈ s.cps.toList, c < 16 ^ 8
theorem cp_of (s : String) : CpOk (Str.ofString s) := fun c hc => by
  rw [Str.ofString_eq_toList] at hc
  obtain ⟨ch, _, rfl⟩ := List.mem_map.mp (show c ∈ s.toList.map Char.toNat by simpa using hc)
  exact Nat.lt_of_lt_of_eq ch.val.toNat_lt (by decide)
theorem cp_app {x y : Str} (hx : CpOk x) (hy : CpOk y) : CpOk (x ++ y) := fun c hc => by
  have e : (x ++ y).cps.toList = x.cps.toList ++ y.cps.toList := by show (x.cps ++ y.cps).toList = _; rw [Array.toList_append]
  rw [e] at hc
  rcases List.mem_append.mp hc with z | z
  · exact hx c z
  · exact hy c z
theorem cp_sjoin {sep : Str} (hs : CpOk sep) : ∀ {xs : List Str}, (∀ x ∈ xs, CpOk x) → CpOk (Str.join sep xs)
  | [], _ => fun c hc => (List.not_mem_nil (show c ∈ ([] : List Nat) from hc)).elim
  | [x], h => h x List.mem_cons_self
  | x :: y :: xs, h => cp_app (cp_app (h x List.mem_cons_self) hs) (cp_sjoin hs fun z hz => h z (List.mem_cons_of_mem _ hz))
theorem cp_join {sep : Str} {xs : List Str} (hs : CpOk sep) (h : ∀ x ∈ xs, CpOk x) : CpOk (Txt.join sep xs) := by
  show CpOk (Builtin.Str.glued sep xs)
  rw [StrLaws.glued_eq_join]
  exact cp_sjoin hs h
theorem cp_ttx (T : List Ent) : CpOk (ttx T) := cp_join (cp_of _) fun x hx => by
  obtain ⟨e, _, rfl⟩ := List.mem_map.mp hx
  exact cp_app (cp_app (cp_app (cp_app (cp_app (fun c hc => (List.not_mem_nil (show c ∈ ([] : List Nat) from hc)).elim) (cp_of _)) (cp_of _)) (cp_of _)) (cp_of _)) (cp_of _)
theorem ttx_len {T : List Ent} (h : Sml T) : (ttx T).length ≤ 42 * T.length := by
  have h2 : (("\n" : Str)).length = 1 := by decide +kernel
  have := join_len (sep := "\n") (B := 41) (xs := T.map txE) fun x hx => by
    obtain ⟨e, he, rfl⟩ := List.mem_map.mp hx
    exact txE_len (h e he)
  rw [h2, List.length_map] at this
  exact this
/-- entries and text of a table -/
def dTl (es : List Ent) : PyData := .tuple [.tuple (dTrips es), .str (ttx es)]
theorem nice_tl {es : List Ent} (h : Sml es) (hl : es.length ≤ 20) : Nice (dTl es) := by
  obtain ⟨b1, b2, b4, b5⟩ := trips_all h
  have b3 := depth_trips es
  have cl := ttx_len h
  have cl2 : (ttx es).cps.size ≤ 42 * es.length := cl
  have cp' : ((ttx es).cps.toList.all fun c => decide (c < 16 ^ 8)) = true := List.all_eq_true.mpr fun c hc => decide_eq_true (cp_ttx es c hc)
  unfold dTl
  refine ⟨?_, ?_, ?_, ?_⟩
  · simp only [PyData.showable, PyData.showableAll, b1, Bool.and_self]
  · simp only [PyData.hasDict, PyData.hasDictAll, b2, Bool.or_self]
  · simp only [PyData.depth, PyData.depthAll]; omega
  · refine PyData.shown_fits (B := 13) (by decide) (by decide) ?_ ?_
    · simp only [PyData.leavesShort, PyData.leavesShortAll, b4, cp', Bool.and_self]
    · simp only [PyData.weight, PyData.weightAll]; omega
structure S8 (H : Hp) (CT f p e tb : Addr) (xs : List V) (ks : List (List Int × Bool)) (ys : List V) (es : List Ent) (Hx : Hp) : Prop where
  sm : Same H Hx
  fe : FeedAt Hx f
  hp : Hx p = some (.lst xs)
  pk : PkAt f p Hx xs ks
  he : Hx e = some (.lst ys)
  tr : TripsAt Hx ys es
  tab : TabAt Hx CT tb es
  hf : H f = none
  np : p ≠ f
  ne : e ≠ f
section
variable {H : Hp} {CT f p e tb : Addr} {xs : List V} {ks : List (List Int × Bool)} {ys : List V} {es : List Ent} {H1 H2 : Hp}
theorem S8.same (g : S8 H CT f p e tb xs ks ys es H1) (s : Same H1 H2) : S8 H CT f p e tb xs ks ys es H2 :=
  ⟨g.sm.trans s, g.fe.same s, s _ _ g.hp, g.pk.map fun a o _ _ h => s a o h, s _ _ g.he, g.tr.same s, g.tab.same s, g.hf, g.np, g.ne⟩
theorem S8.ch (g : S8 H CT f p e tb xs ks ys es H1) (c : Ch f H1 H2) (fe : FeedAt H2 f) : S8 H CT f p e tb xs ks ys es H2 :=
  ⟨c.old g.hf g.sm, fe, c _ _ g.np g.hp, g.pk.map fun a o n _ h => c a o n h, c _ _ g.ne g.he, g.tr.ch c (fe_lst g.fe), g.tab.ch c (fe_lst g.fe), g.hf, g.np, g.ne⟩
end
theorem lod_snoc (ps : List (List Int)) (js : List Nat) (j : Nat) {t : List Int} (h : ps[j]? = some t) : lod ps (js ++ [j]) = lod ps js ++ t := by
  unfold lod
  simp [h]
theorem lod_bound {ps : List (List Int)} (h : ∀ t ∈ ps, t.length ≤ 30) : ∀ js : List Nat, (lod ps js).length ≤ 30 * js.length
  | [] => Nat.zero_le _
  | j :: js => by
    have ih := lod_bound h js
    have e : lod ps (j :: js) = (ps[j]?).getD [] ++ lod ps js := rfl
    have : ((ps[j]?).getD []).length ≤ 30 := by
      cases e2 : ps[j]? with
      | none => exact Nat.zero_le _
      | some t => exact h t (List.mem_of_getElem? e2)
    rw [e, List.length_append, List.length_cons]
    omega
theorem sIx {k n : Nat} (h : k < n) : seqIndex? ((k : Nat) : Int) n = some k := by
  have := seqIndex_of (k := ((k : Nat) : Int)) (n := n) (by omega) (by omega)
  rw [this]; rfl
theorem map_erase {α β : Type} (f : α → β) : ∀ (l : List α) (k : Nat), (l.map f).eraseIdx k = (l.eraseIdx k).map f
  | [], _ => rfl
  | _ :: _, 0 => rfl
  | x :: l, k + 1 => by
    show f x :: (l.map f).eraseIdx k = f x :: (l.eraseIdx k).map f
    rw [map_erase f l k]
section
variable {P : Program} {w : World} {K : PySem.W.Frag} {mg : Str → Option Value} {base : Heap} {fRG fTP fIL fBT fSW fMT fPB fCN fCP fCC fHC fFE fTA fPI fLO fLP fLR fLH fPL fCT fHV fIV fEN fAm fWe fCl fDu fWO C fIN pO fOF pC fPC p3 fPH CT_ fUI fUA fUW fUS : Addr} {dRG dTP dIL dBT dSW dMT dPB dCN dCP dCC dHC dFE dTA dPI dLO dLP dLR dLH dPL dCT dHV dIV dEN dAm dWe dCl dDu dWO dIN dOF dPC dPH dUI dUA dUW dUS : FuncData}
def spLaw (K : PySem.W.Frag) : Sp := fun vs H Q _ => ∃ (a : Addr) (ns : List Int), vs = [.ref a] ∧ SqL K H a (ns.map V.int) ∧ ns.length ≤ 63 ∧ ∀ H', Q (.bl true) H'
theorem len_law {K : PySem.W.Frag} : ∀ vs H Q E, (spLaw K) vs H Q E → vs.length = (["script"] : List Str).length := fun vs H Q E h => by
  obtain ⟨a, ns, rfl, _⟩ := h
  rfl
theorem ok_law {f0 : Addr} {fd : FuncData} (F : Fun K "law" "law" H8T.sLaw f0 fd) (T : Txt K mg fRG fTP fIL fBT fSW fMT fPB fCN fCP fCC fHC fFE fTA fPI fLO fLP fLR fLH fPL fCT fHV fIV fEN fAm fWe fCl fDu fWO C fIN pO fOF pC fPC p3 fPH CT_ fUI fUA fUW fUS dRG dTP dIL dBT dSW dMT dPB dCN dCP dCC dHC dFE dTA dPI dLO dLP dLR dLH dPL dCT dHV dIV dEN dAm dWe dCl dDu dWO dIN dOF dPC dPH dUI dUA dUW dUS) : KW.Kept P w K mg base 9 f0 fd ["script"] (spLaw K) := by
  have GRG : FnOk P w K mg base CX0 1 fRG dRG ["one", "other"] spRng := ok_Rng T.FRG T.min T.max
  have GIL : FnOk P w K mg base CX0 2 fIL dIL ["points", "reading"] (spLO K) := ok_LO T.FIL T.FBT T.gBT T.bBT T.len
  have GTP : FnOk P w K mg base CX0 3 fTP dTP ["load"] (spTP K) := both (ok_TPl T.FTP GIL T.gIL T.kIL T.bIL T.tuple) (ok_TPt T.FTP GIL T.gIL T.kIL T.bIL T.tuple)
  have GTQ : FnOk P w K mg base CX0 3 fTP dTP ["load"] (spTPq K) := tpq_of GTP
  have GSW : FnOk P w K mg base CX0 4 fSW dSW ["load"] (spSw K) := ok_sw T.FSW GTP T.gTP T.kTP T.bTP (GRG.mono (by decide)) T.gRG T.kRG T.bRG T.zip
  have GMT : FnOk P w K mg base CX0 2 fMT dMT ["points", "place"] (spMT K) := ok_MT T.FMT T.abs
  have GPB : FnOk P w K mg base CX0 3 fPB dPB ["rest", "reading"] spPB := ok_PB T.FPB GIL T.gIL T.kIL T.bIL GMT T.gMT T.kMT T.bMT (GRG.mono (by decide)) T.gRG T.kRG T.bRG T.len
  have GCN : FnOk P w K mg base CX0 4 fCN dCN ["load"] (spCo K) := ok_Co T.FCN GPB T.gPB T.kPB T.bPB
  have GIN : FnOk P w K mg base CX0 1 fIN dIN ["self", "cycles", "rest"] (spInit K C) := ok_init T.FIN T.cn T.sorted T.tuple
  have GOF : FnOk P w K mg base CX0 5 fOF dOF ["cls", "load"] (spOf K C) := ok_of T.FOF T.mkc (GIN.mono (by decide)) T.bIN GCN T.gCN T.kCN T.bCN
  have GPC : FnOk P w K mg base CX0 1 fPC dPC ["self"] (spPC C) := ok_PC T.FPC T.cn
  have GPH : FnOk P w K mg base CX0 5 fPH dPH ["self"] (spPH C) := ok_PH T.FPH T.cn GSW T.gSW T.kSW T.bSW T.sorted T.tuple
  have GCP : FnOk P w K mg base CX0 4 fCP dCP ["load"] (spCP K) := ok_CP T.FCP GTQ T.gTP T.kTP T.bTP T.max T.list
  have GCC : FnOk P w K mg base CX0 6 fCC dCC ["load"] (spCC K) := ok_CC T.FCC GCP T.gCP T.kCP T.bCP T.gC T.rd T.cm GOF T.bOF T.cn T.prC (GPC.mono (by decide)) T.bPC T.max T.min T.sorted T.tuple
  have GHC : FnOk P w K mg base CX0 7 fHC dHC ["pieces", "order", "closed"] (spHC K) := ok_HC T.FHC GCC T.gCC T.kCC T.bCC T.gC T.rd T.cm (GOF.mono (by decide)) T.bOF T.cn T.prH 5 rfl GPH T.bPH
  have GUI : FnOk P w K mg base CX0 1 fUI dUI ["self", "entries"] (spTI K CT_) := ok_TI T.FUI T.tbl T.tuple
  have GUA : FnOk P w K mg base CX0 2 fUA dUA ["self", "low", "high"] (spTA CT_) := ok_TA T.FUA T.tbl T.max
  have GUWt : FnOk P w K mg base CX0 3 fUW dUW ["self", "ranges"] (spTWt K CT_) := ok_TWt T.FUW T.tbl T.mUA GUA T.bUA T.sum
  have GWO : FnOk P w K mg base CX0 8 fWO dWO ["pieces", "order", "table", "closed"] (spWO K CT_) := ok_WO T.FWO GHC T.gHC T.kHC T.bHC T.tbl T.mUW 6 rfl (GUWt.mono (by decide)) T.bUW
  have GUS : FnOk P w K mg base CX0 1 fUS dUS ["self"] (H8T.spTS CT_) := H8T.ok_TS T.FUS T.tbl
  have GTA : FnOk P w K mg base CX0 1 fTA dTA ["feed", "many"] spTake := ok_take T.FTA
  have GFE : FnOk P w K mg base CX0 1 fFE dFE ["script", "k"] (spFeed K) := ok_feed T.FFE T.len T.max T.abs
  have GPI : FnOk P w K mg base CX0 2 fPI dPI ["feed", "some"] (spPick K) := ok_pick T.FPI T.FTA T.gTA T.bTA T.len
  have GLO : FnOk P w K mg base CX0 3 fLO dLO ["feed", "most"] spLoad := ok_load T.FLO T.FTA T.gTA T.bTA T.FPI T.gPI T.bPI T.len T.range T.min
  have GLP : FnOk P w K mg base CX0 1 fLP dLP ["load"] (spLP K) := ok_LP T.FLP T.len T.range T.int
  have GLR : FnOk P w K mg base CX0 1 fLR dLR ["one", "other"] spRng := ok_LR T.FLR T.min T.max
  have GLH : FnOk P w K mg base CX0 1 fLH dLH ["outer", "inner"] (spCont K) := ok_LH T.FLH
  have GPL : FnOk P w K mg base CX0 2 fPL dPL ["points"] (spPl K) := ok_pl T.FPL GLR T.gLR T.kLR T.bLR GLH T.gLH T.kLH T.bLH T.len T.range
  have GCT : FnOk P w K mg base CX0 3 fCT dCT ["feed", "load"] (UCT.spCt K) := UCT.ok_ct T.FCT (GLP.mono (by decide)) T.gLP T.kLP T.bLP GPL T.gPL T.kPL T.bPL (GLR.mono (by decide)) T.gLR T.kLR T.bLR T.sorted
  have GHV : FnOk P w K mg base CX0 2 fHV dHV ["cycles", "rest"] (spHv K) := ok_hv T.FHV GLR T.gLR T.kLR T.bLR T.len T.range T.sorted
  have GIV : FnOk P w K mg base CX0 2 fIV dIV ["feed", "most"] spIv := ok_iv T.FIV GTA T.gTA T.kTA T.bTA
  have GEN : FnOk P w K mg base CX0 3 fEN dEN ["feed", "most"] (spEn K) := ok_en T.FEN GTA T.gTA T.kTA T.bTA GIV T.gIV T.kIV T.bIV GPI T.gPI T.kPI T.bPI T.range
  have GAm : FnOk P w K mg base CX0 1 fAm dAm ["entries", "low", "high"] (spAm K) := ok_am T.FAm
  have GWe : FnOk P w K mg base CX0 2 fWe dWe ["entries", "ranges"] (spWe K) := ok_we T.FWe GAm T.gAm T.kAm T.bAm T.sum
  have GCl : FnOk P w K mg base CX0 3 fCl dCl ["load"] (spCl K) := ok_cl T.FCl (GLP.mono (by decide)) T.gLP T.kLP T.bLP GPL T.gPL T.kPL T.bPL (GLR.mono (by decide)) T.gLR T.kLR T.bLR T.len T.min T.max
  have GDu : FnOk P w K mg base CX0 4 fDu dDu ["feed", "load", "entries", "is_round"] (spDu K) := ok_du T.FDu (GWe.mono (by decide)) T.gWe T.kWe T.bWe GCl T.gCl T.kCl T.bCl GCT T.gCT T.kCT T.bCT (GHV.mono (by decide)) T.gHV T.kHV T.bHV
  have GRG := GRG.mono (show 1 ≤ 8 by decide)
  have GIL := GIL.mono (show 2 ≤ 8 by decide)
  have GTP := GTP.mono (show 3 ≤ 8 by decide)
  have GTQ := GTQ.mono (show 3 ≤ 8 by decide)
  have GSW := GSW.mono (show 4 ≤ 8 by decide)
  have GMT := GMT.mono (show 2 ≤ 8 by decide)
  have GPB := GPB.mono (show 3 ≤ 8 by decide)
  have GCN := GCN.mono (show 4 ≤ 8 by decide)
  have GIN := GIN.mono (show 1 ≤ 8 by decide)
  have GOF := GOF.mono (show 5 ≤ 8 by decide)
  have GPC := GPC.mono (show 1 ≤ 7 by decide)
  have GPH := GPH.mono (show 5 ≤ 7 by decide)
  have GCP := GCP.mono (show 4 ≤ 8 by decide)
  have GCC := GCC.mono (show 6 ≤ 8 by decide)
  have GHC := GHC.mono (show 7 ≤ 8 by decide)
  have GUI := GUI.mono (show 1 ≤ 7 by decide)
  have GUA := GUA.mono (show 2 ≤ 8 by decide)
  have GUWt := GUWt.mono (show 3 ≤ 8 by decide)
  have GWO := GWO.mono (show 8 ≤ 8 by decide)
  have GUS := GUS.mono (show 1 ≤ 6 by decide)
  have GTA := GTA.mono (show 1 ≤ 8 by decide)
  have GFE := GFE.mono (show 1 ≤ 8 by decide)
  have GPI := GPI.mono (show 2 ≤ 8 by decide)
  have GLO := GLO.mono (show 3 ≤ 8 by decide)
  have GLP := GLP.mono (show 1 ≤ 8 by decide)
  have GLR := GLR.mono (show 1 ≤ 8 by decide)
  have GLH := GLH.mono (show 1 ≤ 8 by decide)
  have GPL := GPL.mono (show 2 ≤ 8 by decide)
  have GCT := GCT.mono (show 3 ≤ 8 by decide)
  have GHV := GHV.mono (show 2 ≤ 8 by decide)
  have GIV := GIV.mono (show 2 ≤ 8 by decide)
  have GEN := GEN.mono (show 3 ≤ 8 by decide)
  have GAm := GAm.mono (show 1 ≤ 8 by decide)
  have GWe := GWe.mono (show 2 ≤ 8 by decide)
  have GCl := GCl.mono (show 3 ≤ 8 by decide)
  have GDu := GDu.mono (show 4 ≤ 8 by decide)
  refine KW.kept_of F H8T.scLaw len_law (fun cdv A outer s H vs Q E hgA hr h => ?_)
  · obtain ⟨a, ns, rfl, hS, hlen, q⟩ := h
    have hg : (A.deeper (envOfC "law" (defScope H8T.sLaw) s.heap.objs.size f0 cdv)).guards = some [] := hgA
    have hu : (A.deeper (envOfC "law" (defScope H8T.sLaw) s.heap.objs.size f0 cdv)).units + 100 < cLine := by have := hr.un; omega
    refine ⟨_, (pss_cons (ps_for PassesOwn.never rfl (pi_range1 rfl T.range (pa_cons (pe_callB (call_max2 rfl) (by rfl) T.max (by decide +kernel) (pa_cons pe_int (pa_cons (pe_callB (call_min2 rfl) (by rfl) T.min (by decide +kernel) (pa_cons pe_int (pa_cons (pe_callB call_len_seq (by rfl) T.len PySem.boot_len (pa_cons (pv 0) pa_nil)) pa_nil))) pa_nil))) pa_nil)) (pg_name (i := 1) H8T.scLaw.nd rfl (.inl rfl))
      (pss_cons (ps_set (i := 2) H8T.scLaw.nd rfl (.inl rfl) (pe_call GFE hr (by rfl) T.gFE T.kFE T.bFE .nil pass0 (pa_cons (pv 0) (pa_cons (pv 1) pa_nil))))
      (pss_one (ps_for PassesOwn.never rfl (pi_range1 rfl T.range (pa_cons pe_int pa_nil)) (pg_name (i := 3) H8T.scLaw.nd rfl (.inl rfl))
      (pss_cons (ps_set (i := 4) H8T.scLaw.nd rfl (.inl rfl) (pe_lst pa_nil))
      (pss_cons (ps_for PassesOwn.never rfl (pi_range1 rfl T.range (pa_cons (pe_call GTA hr (by rfl) T.gTA T.kTA T.bTA .nil pass0 (pa_cons (pv 2) (pa_cons pe_int pa_nil))) pa_nil)) (pg_name (i := 5) H8T.scLaw.nd rfl (.inl rfl))
      (pss_cons (ps_setLc (i := 6) (own := [("one", 22)]) (g := gName 22)   rfl H8T.scLaw.nd rfl rfl (sw_true rfl rfl rfl (by decide +kernel)) (pi_list (pe_call GLO hr (by rfl) T.gLO T.kLO T.bLO .nil pass0 (pa_cons (pv 2) (pa_cons (pe_call GPI hr (by rfl) T.gPI T.kPI T.bPI .nil pass0 (pa_cons (pv 2) (pa_cons (pe_lst (pa_cons pe_int (pa_cons pe_int (pa_cons pe_int (pa_cons pe_int pa_nil))))) pa_nil))) pa_nil)))) (blkOk_by (own := [("one", 22)]) (N := ["script", "k", "feed", "turn", "pieces", "piece", "some", "far", "entries", "low", "high", "amount", "table", "seen", "text", "again", "left", "order", "load", "place", "open_wear", "closed_wear", "one"]) (sc := defScope H8T.sLaw) (by decide +kernel)) (fun _ _ _ _ _ => (pg_name (i := 22) H8T.scLaw.nd rfl (Or.inl rfl) (Or.inr rfl))) (fun _ _ _ _ _ => pts_nil) (fun _ _ _ _ _ => (pe_op op_fdiv (pv 22) pe_int)))
      (pss_one (ps_expr (pe_bm PySem.F.plainAttrs_list PySem.F.slot_list_append PySem.F.type_list_append mt_append (pv 4) (pa_cons (pe_ifExp (pt_cmpR op_eq (pe_call GTA hr (by rfl) T.gTA T.kTA T.bTA .nil pass0 (pa_cons (pv 2) (pa_cons pe_int pa_nil))) pe_int (nomark _)) (pv 6) (pe_callTy call_tuple_of (by rfl) T.tuple (by decide +kernel) (pa_cons (pv 6) pa_nil))) pa_nil))))))
      (pss_cons (ps_par (i := 7) (j := 8) (by rfl) H8T.scLaw.nd rfl rfl (by decide) rfl rfl (pa_cons (pe_call GPI hr (by rfl) T.gPI T.kPI T.bPI .nil pass0 (pa_cons (pv 2) (pa_cons (pe_lst (pa_cons pe_int (pa_cons pe_int (pa_cons pe_int pa_nil)))) pa_nil))) (pa_cons (pe_lst pa_nil) pa_nil)) (by rfl))
      (pss_cons (ps_for PassesOwn.never rfl (pi_list (pe_call GEN hr (by rfl) T.gEN T.kEN T.bEN .nil pass0 (pa_cons (pv 2) (pa_cons pe_int pa_nil)))) (pg_tup rfl (pgs_cons (pg_name (i := 9) H8T.scLaw.nd rfl (.inl rfl)) (pgs_cons (pg_name (i := 10) H8T.scLaw.nd rfl (.inl rfl)) (pgs_cons (pg_name (i := 11) H8T.scLaw.nd rfl (.inl rfl)) pgs_nil))))
      (pss_one (ps_expr (pe_bm PySem.F.plainAttrs_list PySem.F.slot_list_append PySem.F.type_list_append mt_append (pv 8) (pa_cons (pe_tup (pa_cons (pe_op op_sub (pv 9) (pv 7)) (pa_cons (pe_op op_sub (pv 10) (pv 7)) (pa_cons (pv 11) pa_nil)))) pa_nil)))))
      (pss_cons (ps_par (i := 12) (j := 13) (by rfl) H8T.scLaw.nd rfl rfl (by decide) rfl rfl (pa_cons (pe_make T.mkT GUI hr (by rfl) T.gCT_ T.bUI .nil pass0 (pa_cons (pv 8) pa_nil)) (pa_cons (pe_callB (cr_reprD hg hu) (by rfl) T.repr (by decide +kernel) (pa_cons (pv 4) pa_nil)) pa_nil)) (by rfl))
      (pss_cons (ps_set (i := 14) H8T.scLaw.nd rfl (.inl rfl) (pe_callB (cr_reprD hg hu) (by rfl) T.repr (by decide +kernel) (pa_cons (pe_tup (pa_cons (pe_fld (pv 12) rfl) (pa_cons (pe_callTy (GS.cr_strOwn GUS hr T.fnUS T.iUS T.bUS pass0) (by rfl) T.str (by decide +kernel) (pa_cons (pv 12) pa_nil)) pa_nil))) pa_nil)))
      (pss_one (ps_for PassesOwn.never rfl (pi_range1 rfl T.range (pa_cons pe_int pa_nil)) (pg_name (i := 15) H8T.scLaw.nd rfl (.inl rfl))
      (pss_cons (ps_par (i := 16) (j := 17) (by rfl) H8T.scLaw.nd rfl rfl (by decide) rfl rfl (pa_cons (pe_listRg rfl (by rfl) T.list (prg_1 (by rfl) T.range (pe_callB call_len_seq (by rfl) T.len PySem.boot_len (pa_cons (pv 4) pa_nil)))) (pa_cons (pe_tup pa_nil) pa_nil)) (by rfl))
      (pss_cons (ps_while PassesOwn.never (pt_cmpR (op_neD hr.units) (pv 16) (pe_lst pa_nil) (nomark _))
      (pss_one (ps_set (i := 17) H8T.scLaw.nd rfl (.inl rfl) (pe_op op_catA (pv 17) (pe_tup (pa_cons (pe_bm PySem.F.plainAttrs_list PySem.F.slot_list_pop PySem.F.type_list_pop mt_popAt (pv 16) (pa_cons (pe_call GTA hr (by rfl) T.gTA T.kTA T.bTA .nil pass0 (pa_cons (pv 2) (pa_cons (pe_callB call_len_seq (by rfl) T.len PySem.boot_len (pa_cons (pv 16) pa_nil)) pa_nil))) pa_nil)) pa_nil))))))
      (pss_cons (ps_set (i := 18) H8T.scLaw.nd rfl (.inl rfl) (pe_lst pa_nil))
      (pss_cons (ps_for PassesOwn.never rfl (pi_tup (pv 17)) (pg_name (i := 19) H8T.scLaw.nd rfl (.inl rfl))
      (pss_one (ps_set (i := 18) H8T.scLaw.nd rfl (.inl rfl) (pe_op op_cat (pv 18) (pe_callTy call_list_of (by rfl) T.list (by decide +kernel) (pa_cons (pe_ix ix_list (pv 4) (pv 19) (fun _ _ => rfl)) pa_nil))))))
      (pss_cons (ps_set (i := 20) H8T.scLaw.nd rfl (.inl rfl) (pe_call GWO hr (by rfl) T.gWO T.kWO T.bWO (show Vals [V.bl false] [Value.bool false] from .cons rfl .nil) pass0 (pa_cons (pv 4) (pa_cons (pv 17) (pa_cons (pv 12) pa_nil)))))
      (pss_cons (ps_if (PW.pt (pw_or (pt_cmpR op_ne (pv 20) (pe_call GDu hr (by rfl) T.gDu T.kDu T.bDu .nil pass0 (pa_cons (pv 2) (pa_cons (pv 18) (pa_cons (pv 8) (pa_cons pe_bl pa_nil))))) (nomark _)) (pw_or1 (pt_cmpR op_ne (pe_callB (cr_reprD hg hu) (by rfl) T.repr (by decide +kernel) (pa_cons (pv 4) pa_nil)) (pv 13) (nomark _))))) (pss_one (ps_ret pe_bl)) pss_nil)
      (pss_cons (ps_if (pt_cmpR op_ne (pe_callN GWO hr (by rfl) T.gWO T.kWO T.kbWO pass0 (pa_cons (pv 4) (pa_cons (pv 17) (pa_cons (pv 12) pa_nil))) (pk_cons pe_bl pk_nil)) (pv 20) (nomark _)) (pss_one (ps_ret pe_bl)) pss_nil)
      (pss_cons (ps_set (i := 21) H8T.scLaw.nd rfl (.inl rfl) (pe_callN GWO hr (by rfl) T.gWO T.kWO T.kbWO pass0 (pa_cons (pe_callTy call_tuple_of (by rfl) T.tuple (by decide +kernel) (pa_cons (pv 4) pa_nil)) (pa_cons (pv 17) (pa_cons (pv 12) pa_nil))) (pk_cons pe_bl pk_nil)))
      (pss_cons (ps_if (pt_cmpR op_ne (pv 21) (pe_call GDu hr (by rfl) T.gDu T.kDu T.bDu .nil pass0 (pa_cons (pv 2) (pa_cons (pv 18) (pa_cons (pv 8) (pa_cons pe_bl pa_nil))))) (nomark _)) (pss_one (ps_ret pe_bl)) pss_nil)
      (pss_one (ps_if (pt_cmpR op_ne (pe_callB (cr_reprD hg hu) (by rfl) T.repr (by decide +kernel) (pa_cons (pe_tup (pa_cons (pe_fld (pv 12) rfl) (pa_cons (pe_callTy (GS.cr_strOwn GUS hr T.fnUS T.iUS T.bUS pass0) (by rfl) T.str (by decide +kernel) (pa_cons (pv 12) pa_nil)) pa_nil))) pa_nil)) (pv 14) (nomark _)) (pss_one (ps_ret pe_bl)) pss_nil)))))))))))))))))))))))
      (pss_one (ps_ret pe_bl))), ?_⟩
    have l2s : 2 ≤ sizeLine := by decide
    have l3s : 3 ≤ sizeLine := by decide
    have l4s : 4 ≤ sizeLine := by decide
    have l1s : 1 ≤ sizeLine := by decide
    -- for k
    refine ⟨.ref a, rfl, a, ns.map V.int, rfl, .inl hS, 4, ((ns.map V.int).length : Int), rfl, 2, _, rfl, _, rfl, ?_⟩
    generalize hm : (if (if ((ns.map V.int).length : Int) < 4 then ((ns.map V.int).length : Int) else 4) > 2 then (if ((ns.map V.int).length : Int) < 4 then ((ns.map V.int).length : Int) else 4) else 2) = m
    have m0 : 0 ≤ m ∧ m ≤ 4 := by subst hm; split <;> split <;> omega
    refine ⟨by omega, by omega, for_range (lo := 0) (n := m.toNat) (fun i σ H' => Same H H' ∧ ∃ r1 r2 r3 r4 r5 r6 r7 r8 r9 r10 r11 r12 r13 r14 r15 r16 r17 r18 r19 r20 r21 r22 : Option V, σ = [some (.ref a), r1, r2, r3, r4, r5, r6, r7, r8, r9, r10, r11, r12, r13, r14, r15, r16, r17, r18, r19, r20, r21, r22]) ⟨Same.refl H, _, _, _, _, _, _, _, _, _, _, _, _, _, _, _, _, _, _, _, _, _, _, rfl⟩ ?_ (fun σ H1 _ => q _)⟩
    rintro i σ H' hi ⟨sm, r1, r2, r3, r4, r5, r6, r7, r8, r9, r10, r11, r12, r13, r14, r15, r16, r17, r18, r19, r20, r21, r22, rfl⟩
    refine ⟨.ref a, rfl, .int (0 + (i : Int)), rfl, a, ns, 0 + (i : Int), rfl, sm.seq hS, by omega, by omega, fun H1 f s1 nf fe => ?_⟩
    have hf0 : H f = none := sm.free nf
    have sm1 := sm.trans s1
    clear sm s1 nf
    refine ⟨3, rfl, by decide, by decide, for_range (lo := 0) (n := (3 : Int).toNat) (fun _ σ H' => Same H H' ∧ FeedAt H' f ∧ ∃ r1 r3 r4 r5 r6 r7 r8 r9 r10 r11 r12 r13 r14 r15 r16 r17 r18 r19 r20 r21 r22 : Option V, σ = [some (.ref a), r1, some (.ref f), r3, r4, r5, r6, r7, r8, r9, r10, r11, r12, r13, r14, r15, r16, r17, r18, r19, r20, r21, r22]) ⟨sm1, fe, _, _, _, _, _, _, _, _, _, _, _, _, _, _, _, _, _, _, _, _, _, rfl⟩ ?_ ?_⟩
    case refine_2 =>
      rintro σ H2 ⟨s2, _, r1, r3, r4, r5, r6, r7, r8, r9, r10, r11, r12, r13, r14, r15, r16, r17, r18, r19, r20, r21, r22, rfl⟩
      exact ⟨s2, _, _, _, _, _, _, _, _, _, _, _, _, _, _, _, _, _, _, _, _, _, _, rfl⟩
    clear sm1 fe
    rintro t σ H3 _ ⟨sm, fe, r1, r3, r4, r5, r6, r7, r8, r9, r10, r11, r12, r13, r14, r15, r16, r17, r18, r19, r20, r21, r22, rfl⟩
    -- pieces
    refine ⟨Nat.zero_le _, fun p np0 => ?_⟩
    have npf : p ≠ f := fe.ne np0
    have hp0 : H p = none := sm.free np0
    have sp := same_new (o := .lst []) np0
    have ep := upd_same (H := H3) (a := p) (o := .lst [])
    have fe3 := fe.same sp
    have sm3 := sm.trans sp
    generalize upd H3 p (.lst []) = H4 at sp ep fe3 sm3 ⊢
    clear sp fe sm np0
    refine ⟨.ref f, rfl, f, 8, rfl, by decide, by decide, fe3, fun H5 n c5 fe5 n0 n8 => ?_⟩
    refine ⟨n, rfl, by omega, by omega, for_range (lo := 0) (n := n.toNat) (fun i σ Hx => Same H Hx ∧ FeedAt Hx f ∧ ∃ (xs : List V) (ks : List (List Int × Bool)), Hx p = some (.lst xs) ∧ PkAt f p Hx xs ks ∧ ks.length = i ∧ PkS ks ∧ ∃ r1 r3 r5 r6 r7 r8 r9 r10 r11 r12 r13 r14 r15 r16 r17 r18 r19 r20 r21 r22 : Option V, σ = [some (.ref a), r1, some (.ref f), r3, some (.ref p), r5, r6, r7, r8, r9, r10, r11, r12, r13, r14, r15, r16, r17, r18, r19, r20, r21, r22]) ⟨c5.old hf0 sm3, fe5, [], [], c5 _ _ npf ep, trivial, rfl, fun _ z => (List.not_mem_nil z).elim, _, _, _, _, _, _, _, _, _, _, _, _, _, _, _, _, _, _, _, _, rfl⟩ ?_ ?_⟩
    · clear c5 fe5 sm3 fe3 ep
      rintro j σ Hx hj ⟨sx, fex, xs, ks, hp, pk, hk, sk, r1, r3, r5, r6, r7, r8, r9, r10, r11, r12, r13, r14, r15, r16, r17, r18, r19, r20, r21, r22, rfl⟩
      have hj7 : j < 8 := by omega
      refine ⟨.ref f, rfl, .ref f, rfl, l4s, fun l nl => ?_⟩
      have sl := same_new (o := .lst [.int 6, .int 6, .int 6, .int 30]) nl
      refine ⟨f, l, _, rfl, fex.ne nl, SqL.of upd_same, by show 0 < 4; decide, by show 4 ≤ 1000; decide, fex.same sl, fun H6 k v hv c6 fe6 => ?_⟩
      obtain ⟨mo, rfl, mo0, mo1⟩ : ∃ mo : Int, v = .int mo ∧ 0 ≤ mo ∧ mo ≤ 30 := by
        rcases KL.four hv with e | e | e | e
        · exact ⟨6, e, by decide, by decide⟩
        · exact ⟨6, e, by decide, by decide⟩
        · exact ⟨6, e, by decide, by decide⟩
        · exact ⟨30, e, by decide, by decide⟩
      refine ⟨f, mo, rfl, mo0, by omega, fe6, fun H7 r la c7 fe7 nr hr7 hll hb => ?_⟩
      have cx : Ch f Hx H7 := (Ch.of_same sl).trans (c6.trans c7)
      have pk7 := pk.map fun a o n1 _ h => cx a o n1 h
      have hp7 := cx _ _ npf hp
      have sx7 := cx.old hf0 sx
      clear cx c7 c6 fe6 sl nl pk hp sx fex
      refine ⟨r, rfl, ⟨_, SqL.of hr7⟩, fun D nD => lc_list (K := K) (a := r) (xs := la.map V.int) (fun i Hz => Same H7 Hz ∧ Hz D = some (.lst (((la.take i).map (· / 3)).map V.int))) ⟨same_new nD, upd_same⟩ (fun i Hz _ z => SqL.of (z.1 _ _ hr7)) ?_ ?_⟩
      · rintro i y Hz hy ⟨sz, eD⟩
        obtain ⟨w, ew, rfl⟩ := int_at hy
        have hi2 := (List.getElem?_eq_some_iff.mp ew).1
        refine ⟨rfl, iteT (B := True) ⟨.int w, rfl, w, 3, rfl, rfl, ⟨by decide, by decide⟩, _, eD, small3000 (by rw [List.length_map, List.length_map, List.length_take]; omega), same_again nD sz, ?_⟩⟩
        rw [upd_same, List.take_add_one, ew, List.map_append, List.map_append]
        rfl
      rintro H8 ⟨s8, eD⟩
      rw [List.length_map, List.take_length] at eD
      have nDf : D ≠ f := fe7.ne nD
      have nDp : D ≠ p := fun z => by rw [z, hp7] at nD; cases nD
      have pk8 := pk7.map fun a o _ _ h => s8 a o h
      have hp8 := s8 _ _ hp7
      have fe8 := fe7.same s8
      have sx8 := sx7.trans s8
      have pl := pk8.len
      have newS : (la.map (· / 3)).length ≤ 30 ∧ ∀ n ∈ la.map (· / 3), n.natAbs < 2 ^ 39 := by
        refine ⟨by rw [List.length_map]; omega, fun n hn => ?_⟩
        obtain ⟨w, hw, rfl⟩ := List.mem_map.mp hn
        have := hb w hw
        show (w / 3).natAbs < 2 ^ 39
        have h2 : (2 : Nat) ^ 32 = 4294967296 := by decide
        have h3 : (2 : Nat) ^ 39 = 549755813888 := by decide
        omega
      have addS : ∀ b : Bool, PkS (ks ++ [(la.map (· / 3), b)]) := fun b t ht => by
        rcases List.mem_append.mp ht with z | z
        · exact sk t z
        · rw [List.mem_singleton.mp z]; exact newS
      clear s8 nD hr7 nr fe7 pk7 hp7 sx7
      refine ⟨.ref p, rfl, .inl ⟨rfl, _, SqL.of hp8⟩, .ref f, rfl, f, 2, rfl, by decide, by decide, fe8, fun H9 tt c9 fe9 t0 t1 => ⟨rfl, _, rfl, ?_⟩⟩
      have pk9 := pk8.map fun a o n1 _ h => c9 a o n1 h
      have hp9 := c9 _ _ npf hp8
      have eD9 := c9 _ _ nDf eD
      have sx9 := c9.old hf0 sx8
      refine ite2 (fun _ => ?_) (fun _ => ?_)
      · refine ⟨.ref D, rfl, p, xs, .ref D, rfl, rfl, hp9, small3000 (by omega), ?_⟩
        exact ⟨same_again hp0 sx9, fe9.upd npf, xs ++ [.ref D], ks ++ [(la.map (· / 3), false)], upd_same, PkAt.snoc nDf nDp (by rw [upd_ne nDp]; exact eD9) (pk9.map fun a o _ n2 h => by rw [upd_ne n2]; exact h), by rw [List.length_append]; show ks.length + 1 = _; omega, addS _, _, _, _, _, _, _, _, _, _, _, _, _, _, _, _, _, _, _, _, _, rfl⟩
      · refine ⟨.ref D, rfl, D, _, rfl, .inl ⟨SqL.of eD9, fun u nu => ?_⟩⟩
        have nuf := fe9.ne nu
        have nup : u ≠ p := fun z => by rw [z, hp9] at nu; cases nu
        have su := same_new (o := .tup ((la.map (· / 3)).map V.int)) nu
        refine ⟨p, xs, .ref u, rfl, rfl, su _ _ hp9, small3000 (by omega), ?_⟩
        exact ⟨same_again hp0 (sx9.trans su), (fe9.same su).upd npf, xs ++ [.ref u], ks ++ [(la.map (· / 3), true)], upd_same, PkAt.snoc nuf nup (by rw [upd_ne nup]; exact upd_same) (pk9.map fun a o _ n2 h => by rw [upd_ne n2]; exact su a o h), by rw [List.length_append]; show ks.length + 1 = _; omega, addS _, _, _, _, _, _, _, _, _, _, _, _, _, _, _, _, _, _, _, _, _, rfl⟩
    rintro σ H6 ⟨sx, fex, xs, ks, hp, pk, hk, sk, r1, r3, r5, r6, r7, r8, r9, r10, r11, r12, r13, r14, r15, r16, r17, r18, r19, r20, r21, r22, rfl⟩
    have hk7 : ks.length ≤ 7 := by omega
    clear hk c5 fe5 sm3 fe3 ep n0 n8
    -- far, entries
    refine ⟨.ref f, rfl, l3s, fun l nl => ?_⟩
    have sl := same_new (o := .lst [.int 0, .int 3, .int 6]) nl
    refine ⟨f, l, _, rfl, fex.ne nl, SqL.of upd_same, by show 0 < 3; decide, by show 3 ≤ 1000; decide, fex.same sl, fun H7 k v hv c7 fe7 => ?_⟩
    obtain ⟨fr, rfl, fr0, fr1⟩ : ∃ fr : Int, v = .int fr ∧ 0 ≤ fr ∧ fr ≤ 6 := by
      rcases KL.three hv with e | e | e
      · exact ⟨0, e, by decide, by decide⟩
      · exact ⟨3, e, by decide, by decide⟩
      · exact ⟨6, e, by decide, by decide⟩
    have cx : Ch f H6 H7 := (Ch.of_same sl).trans c7
    have pk7 := pk.map fun a o n1 _ h => cx a o n1 h
    have hp7 := cx _ _ npf hp
    have sx7 := cx.old hf0 sx
    clear cx c7 sl nl pk hp sx fex
    refine ⟨Nat.zero_le _, fun e ne0 => ⟨.int fr, .ref e, rfl, ?_⟩⟩
    have nef := fe7.ne ne0
    have nep : e ≠ p := fun z => by rw [z, hp7] at ne0; cases ne0
    have he0 := sx7.free ne0
    have se := same_new (o := .lst []) ne0
    have ee := upd_same (H := H7) (a := e) (o := .lst [])
    have hp8 := se _ _ hp7
    have fe8 := fe7.same se
    have sx8 := sx7.trans se
    have c78 : Ch f H7 (upd H7 e (.lst [])) := Ch.of_same se
    have en7 : H7 e = none := ne0
    generalize upd H7 e (.lst []) = H8 at ee hp8 fe8 sx8 c78 se ⊢
    refine ⟨.ref f, rfl, f, 6, rfl, by decide, by decide, fe8, fun H9 c0 ys0 es0 c9 fe9 hc0 nc0 nn0 tr0 gd0 bd0 le0 => ?_⟩
    have nce : c0 ≠ e := fun z => by rw [z, ee] at nn0; cases nn0
    have ee9 := c9 _ _ nef ee
    have sx9 := c9.old hf0 sx8
    have c79 := c78.trans c9
    clear ee sx8 fe8 c9 c78 hp8 se fe7 sx7
    have yl0 := tr0.length
    let sh : Ent → Ent := fun x => (x.1 - fr, x.2.1 - fr, x.2.2)
    refine ⟨c0, rfl, ⟨_, SqL.of hc0⟩, for_list (K := K) (a := c0) (xs := ys0) (fun i σ Hx => Same H Hx ∧ Ch f H7 Hx ∧ FeedAt Hx f ∧ Hx c0 = some (.lst ys0) ∧ TripsAt Hx ys0 es0 ∧ (∃ ys, Hx e = some (.lst ys) ∧ TripsAt Hx ys ((es0.take i).map sh)) ∧ ∃ r1 r3 r5 r6 r9 r10 r11 r12 r13 r14 r15 r16 r17 r18 r19 r20 r21 r22 : Option V, σ = [some (.ref a), r1, some (.ref f), r3, some (.ref p), r5, r6, some (.int fr), some (.ref e), r9, r10, r11, r12, r13, r14, r15, r16, r17, r18, r19, r20, r21, r22]) ⟨sx9, c79, fe9, hc0, tr0, ⟨[], ee9, trivial⟩, _, _, _, _, _, _, _, _, _, _, _, _, _, _, _, _, _, _, rfl⟩ (fun i σ Hx _ g => SqL.of g.2.2.2.1) ?_ ?_⟩
    · clear sx9 c79 fe9 hc0 tr0 ee9
      rintro i v σ Hx hv ⟨sx, cx, fex, hc0, tr0, ⟨ys, he, tr⟩, r1, r3, r5, r6, r9, r10, r11, r12, r13, r14, r15, r16, r17, r18, r19, r20, r21, r22, rfl⟩
      obtain ⟨p2, en, rfl, ee2, hp2⟩ := tr0.get hv
      have yl := tr.length
      rw [List.length_map, List.length_take] at yl
      refine ⟨p2, _, rfl, SqT.of hp2, rfl, .int en.1, [.int en.2.1, .int en.2.2], rfl, .int en.2.1, [.int en.2.2], rfl, .int en.2.2, [], rfl, rfl, ?_⟩
      refine ⟨.ref e, rfl, .inl ⟨rfl, _, SqL.of he⟩, .int en.1, rfl, .int fr, rfl, en.1, fr, rfl, rfl, .int en.2.1, rfl, .int fr, rfl, en.2.1, fr, rfl, rfl, .int en.2.2, rfl, l3s, fun q nq => ?_⟩
      have sq := same_new (o := tri (sh en)) nq
      have eq := upd_same (H := Hx) (a := q) (o := tri (sh en))
      have nqe : q ≠ e := fun z => by rw [z, he] at nq; cases nq
      refine ⟨e, ys, .ref q, rfl, rfl, sq _ _ he, small3000 (by omega), ?_⟩
      have kk : ∀ b o, b ≠ e → (upd Hx q (tri (sh en))) b = some o → (upd (upd Hx q (tri (sh en))) e (.lst (ys ++ [.ref q]))) b = some o := fun b o n h => by rw [upd_ne n]; exact h
      refine ⟨same_again he0 (sx.trans sq), Ch.again en7 (cx.trans (Ch.of_same sq)), (fex.same sq).upd nef, kk _ _ nce (sq _ _ hc0), (tr0.same sq).but kk (sq _ _ he), ⟨ys ++ [.ref q], upd_same, ?_⟩, _, _, _, _, _, _, _, _, _, _, _, _, _, _, _, _, _, _, rfl⟩
      rw [List.take_add_one, ee2, List.map_append]
      exact ((tr.same sq).app (trips_one (e := sh en) eq)).but kk (sq _ _ he)
    clear sx9 c79 fe9 hc0 tr0 ee9
    rintro σ H10 ⟨sx, cx, fex, hc0, tr0, ⟨ys, he, tr⟩, r1, r3, r5, r6, r9, r10, r11, r12, r13, r14, r15, r16, r17, r18, r19, r20, r21, r22, rfl⟩
    rw [yl0, List.take_length] at tr
    have pk := pk7.map fun a o n1 _ h => cx a o n1 h
    have hp := cx _ _ npf hp7
    obtain ⟨es, hes⟩ : ∃ es, es0.map sh = es := ⟨_, rfl⟩
    rw [hes] at tr
    have gd : Good es := fun x hx => by
      rw [← hes] at hx
      obtain ⟨y, hy, rfl⟩ := List.mem_map.mp hx
      have := gd0 y hy
      exact ⟨show y.1 - fr < y.2.1 - fr by omega, this.2⟩
    have sml : Sml es := fun x hx => by
      rw [← hes] at hx
      obtain ⟨y, hy, rfl⟩ := List.mem_map.mp hx
      have h1 := gd0 y hy
      have h2 := bd0 y hy
      have h3 : (2 : Nat) ^ 39 = 549755813888 := by decide
      refine ⟨show (y.1 - fr).natAbs < 2 ^ 39 by omega, show (y.2.1 - fr).natAbs < 2 ^ 39 by omega, show y.2.2.natAbs < 2 ^ 39 by omega⟩
    have lee : es.length ≤ 6 := by rw [← hes, List.length_map]; exact le0
    clear hc0 tr0 cx pk7 hp7 hes sh gd0 bd0 le0 yl0 nce nc0 nn0 en7
    -- table, seen
    refine ⟨.ref e, rfl, fun tb dx ntb ndx nn => ?_⟩
    have s0 : Same H10 (upd (upd H10 dx (.own tb)) tb (.ins CT_ dx [])) := (same_new ndx).trans (same_new (by rw [upd_ne nn.symm]; exact ntb))
    refine ⟨tb, e, dx, ys, es, rfl, upd_same, s0 _ _ he, tr.same s0, by omega, fun H11 keep tab => ⟨rfl, ?_⟩⟩
    have s11 : Same H10 H11 := fun b o h => keep b o (ne_of_none h ntb) (s0 _ _ h)
    have g11 : S8 H CT_ f p e tb xs ks ys es H11 := ⟨sx.trans s11, fex.same s11, s11 _ _ hp, pk.map fun a o _ _ h => s11 a o h, s11 _ _ he, tr.same s11, tab, hf0, npf, nef⟩
    clear keep s11 s0 nn ndx ntb sx fex he tr pk hp tab
    have dpP : ∀ {Hx : Hp}, S8 H CT_ f p e tb xs ks ys es Hx → Dp K Hx (.ref p) (.list (ks.map dPk)) := fun g => .lst (SqL.of g.hp) (dp_pk g.pk)
    have niceP := nice_pk sk hk7
    refine ⟨.ref p, rfl, p, _, rfl, dpP g11, niceP, .ref tb, .str _, rfl, ?_⟩
    -- text
    have tellT : ∀ {Hx : Hp}, S8 H CT_ f p e tb xs ks ys es Hx → ∃ dx t zs, Hx tb = some (.ins CT_ dx [("entries", .ref t)]) ∧ Hx t = some (.tup zs) ∧ TripsAt Hx zs es := fun g => g.tab
    have niceT := nice_tl sml (by omega)
    obtain ⟨dx1, t1, zs1, hx1, ht1, tr1⟩ := tellT g11
    refine ⟨.ref tb, rfl, tb, CT_, dx1, _, .ref t1, rfl, hx1, T.tbl.cl, T.tbl.nE, rfl, .ref tb, rfl, tb, dx1, _, rfl, hx1, tb, es, rfl, g11.tab, by omega, sml, fun H12 s12 => ⟨_, rfl, l2s, fun u nu => ?_⟩⟩
    have su := same_new (o := .tup [.ref t1, .str (ttx es)]) nu
    have w12 := s12.trans su
    refine ⟨u, dTl es, rfl, .tup (SqT.of upd_same) (.cons (.tup (SqT.of (w12 _ _ ht1)) (dp_trips (tr1.same w12))) (.cons (.str _) .nil)), niceT, ?_⟩
    have g12 := g11.same w12
    generalize upd H12 u (.tup [.ref t1, .str (ttx es)]) = H13 at su w12 g12 ⊢
    clear su w12 s12 nu hx1 ht1 tr1 g11
    -- for again
    refine ⟨4, rfl, by decide, by decide, for_range (lo := 0) (n := (4 : Int).toNat) (fun _ σ Hx => S8 H CT_ f p e tb xs ks ys es Hx ∧ ∃ r1 r3 r5 r6 r9 r10 r11 r15 r16 r17 r18 r19 r20 r21 r22 : Option V, σ = [some (.ref a), r1, some (.ref f), r3, some (.ref p), r5, r6, some (.int fr), some (.ref e), r9, r10, r11, some (.ref tb), some (.str (PyData.list (ks.map dPk)).shown), some (.str (dTl es).shown), r15, r16, r17, r18, r19, r20, r21, r22]) ⟨g12, _, _, _, _, _, _, _, _, _, _, _, _, _, _, _, rfl⟩ ?_ ?_⟩
    case refine_2 =>
      rintro σ Hx ⟨g, r1, r3, r5, r6, r9, r10, r11, r15, r16, r17, r18, r19, r20, r21, r22, rfl⟩
      exact ⟨g.sm, g.fe, _, _, _, _, _, _, _, _, _, _, _, _, _, _, _, _, _, _, _, _, _, rfl⟩
    clear g12 H13
    rintro i0 σ HB hi0 ⟨g, r1, r3, r5, r6, r9, r10, r11, r15, r16, r17, r18, r19, r20, r21, r22, rfl⟩
    have xl := g.pk.len
    -- left, order
    refine ⟨.ref p, rfl, p, xs, rfl, .inl (SqL.of g.hp), _, rfl, RgOk.of_le (by decide) (by omega) (by decide) (by omega), fun l nl => ?_⟩
    have nlf := g.fe.ne nl
    have ergV : rgV 0 ((xs.length : Nat) : Int) = ((List.range ks.length).map fun j => V.int ((j : Nat) : Int)) := by
      unfold rgV
      rw [xl]
      have : (((ks.length : Nat) : Int) - 0).toNat = ks.length := by omega
      rw [this]
      exact List.map_congr_left fun j _ => by rw [Int.zero_add]
    rw [ergV]
    have sl := same_new (o := .lst ((List.range ks.length).map fun j => V.int ((j : Nat) : Int))) nl
    have el := upd_same (H := HB) (a := l) (o := .lst ((List.range ks.length).map fun j => V.int ((j : Nat) : Int)))
    have fel := g.fe.same sl
    generalize upd HB l (.lst ((List.range ks.length).map fun j => V.int ((j : Nat) : Int))) = H1 at sl el fel ⊢
    refine ⟨Nat.zero_le _, fun o no => ⟨.ref l, .ref o, rfl, ?_⟩⟩
    have so := same_new (o := .tup []) no
    refine ⟨fun n σ Hx => ∃ (o : Addr) (js lv : List Nat), n = lv.length ∧ Ch f HB Hx ∧ FeedAt Hx f ∧ Hx l = some (.lst (lv.map fun j => V.int ((j : Nat) : Int))) ∧ Hx o = some (.tup (js.map fun j => V.int ((j : Nat) : Int))) ∧ (∀ j ∈ js, j < ks.length) ∧ (∀ j ∈ lv, j < ks.length) ∧ js.length + lv.length = ks.length ∧ ∃ r1 r3 r5 r6 r9 r10 r11 r15 r18 r19 r20 r21 r22 : Option V, σ = [some (.ref a), r1, some (.ref f), r3, some (.ref p), r5, r6, some (.int fr), some (.ref e), r9, r10, r11, some (.ref tb), some (.str (PyData.list (ks.map dPk)).shown), some (.str (dTl es).shown), r15, some (.ref l), some (.ref o), r18, r19, r20, r21, r22], ⟨_, o, [], List.range ks.length, rfl, Ch.of_same (sl.trans so), fel.same so, so _ _ el, upd_same, fun _ z => (List.not_mem_nil z).elim, fun j hj => List.mem_range.mp hj, by rw [List.length_range]; simp, _, _, _, _, _, _, _, _, _, _, _, _, _, rfl⟩, ?_⟩
    clear so no sl el fel ergV H1
    clear o
    rintro n σ Hx ⟨o, js, lv, rfl, cx, fex, hl, ho, hjs, hlv, jl, r1, r3, r5, r6, r9, r10, r11, r15, r18, r19, r20, r21, r22, rfl⟩
    have elv : (lv.map fun j => V.int ((j : Nat) : Int)) = (lv.map fun j => ((j : Nat) : Int)).map V.int := by rw [List.map_map]; rfl
    refine ⟨.ref l, rfl, Nat.zero_le _, fun e1 ne1 => ?_⟩
    have se1 := same_new (o := .lst []) ne1
    refine ⟨.list (dInts (lv.map fun j => ((j : Nat) : Int))), .list (dInts []), .lst (SqL.of (by rw [← elv]; exact se1 _ _ hl)) (dp_ints _), .lst (SqL.of upd_same) (dp_ints []), shaped_lst _, shaped_lst [], _, rfl, ?_⟩
    rw [ev_nil]
    have cx1 := cx.trans (Ch.of_same se1)
    have fe1 := fex.same se1
    have hl1 := se1 _ _ hl
    have ho1 := se1 _ _ ho
    generalize upd Hx e1 (.lst []) = H1 at se1 cx1 fe1 hl1 ho1 ⊢
    clear cx fex hl ho ne1 se1
    by_cases hne : lv = []
    case neg =>
      rw [decide_eq_false (show ¬ (lv.map fun j => ((j : Nat) : Int)) = [] from fun z => hne (List.map_eq_nil_iff.mp z))]
      refine iteT ⟨fun σ Hx => ∃ m', m' < lv.length ∧ ∃ (o : Addr) (js lv : List Nat), m' = lv.length ∧ Ch f HB Hx ∧ FeedAt Hx f ∧ Hx l = some (.lst (lv.map fun j => V.int ((j : Nat) : Int))) ∧ Hx o = some (.tup (js.map fun j => V.int ((j : Nat) : Int))) ∧ (∀ j ∈ js, j < ks.length) ∧ (∀ j ∈ lv, j < ks.length) ∧ js.length + lv.length = ks.length ∧ ∃ r1 r3 r5 r6 r9 r10 r11 r15 r18 r19 r20 r21 r22 : Option V, σ = [some (.ref a), r1, some (.ref f), r3, some (.ref p), r5, r6, some (.int fr), some (.ref e), r9, r10, r11, some (.ref tb), some (.str (PyData.list (ks.map dPk)).shown), some (.str (dTl es).shown), r15, some (.ref l), some (.ref o), r18, r19, r20, r21, r22], fun _ _ z => z, ?_⟩
      have lpos : 0 < lv.length := List.length_pos_iff.mpr hne
      have lml : (lv.map fun j => V.int ((j : Nat) : Int)).length = lv.length := List.length_map _
      refine ⟨.ref o, rfl, .ref l, rfl, .inl ⟨rfl, _, SqL.of hl1⟩, .ref f, rfl, .ref l, rfl, l, _, rfl, .inl (SqL.of hl1), f, _, rfl, by omega, by omega, fe1, fun H2 v c2 fe2 v0 v1 => ?_⟩
      obtain ⟨k2, rfl⟩ : ∃ k2 : Nat, v = (k2 : Int) := ⟨v.toNat, by omega⟩
      have hk2 : k2 < lv.length := by omega
      obtain ⟨j, hj⟩ : ∃ j, lv[k2]? = some j := ⟨_, List.getElem?_eq_getElem hk2⟩
      have hl2 := c2 _ _ nlf hl1
      have nof : o ≠ f := fun z => by
        obtain ⟨_, _, _, _, _, hff⟩ := fe1
        rw [z, hff] at ho1; cases ho1
      have ho2 := c2 _ _ nof ho1
      refine ⟨l, _, ((k2 : Nat) : Int), k2, .int ((j : Nat) : Int), rfl, rfl, hl2, by omega, by omega, by rw [lml]; exact sIx hk2, by rw [List.getElem?_map, hj]; rfl, l1s, fun u nu => ?_⟩
      have hnl : HB l = none := nl
      have cx2 := Ch.again (o := .lst ((lv.map fun j => V.int ((j : Nat) : Int)).eraseIdx k2)) hnl (cx1.trans c2)
      have nol : o ≠ l := fun z => by rw [z, hl2] at ho2; cases ho2
      have ho3 : (upd H2 l (.lst ((lv.map fun j => V.int ((j : Nat) : Int)).eraseIdx k2))) o = some (.tup (js.map fun j => V.int ((j : Nat) : Int))) := by rw [upd_ne nol]; exact ho2
      have hl3 : (upd H2 l (.lst ((lv.map fun j => V.int ((j : Nat) : Int)).eraseIdx k2))) l = some (.lst ((lv.eraseIdx k2).map fun j => V.int ((j : Nat) : Int))) := by rw [upd_same, map_erase]
      have fe3 := fe2.upd (o := .lst ((lv.map fun j => V.int ((j : Nat) : Int)).eraseIdx k2)) nlf
      generalize upd H2 l (.lst ((lv.map fun j => V.int ((j : Nat) : Int)).eraseIdx k2)) = H3 at nu cx2 ho3 hl3 fe3 ⊢
      have su := same_new (o := .tup [.int ((j : Nat) : Int)]) nu
      have eu := upd_same (H := H3) (a := u) (o := .tup [.int ((j : Nat) : Int)])
      have el2 : (lv.eraseIdx k2).length + 1 = lv.length := by rw [List.length_eraseIdx, if_pos hk2]; omega
      have fin : ∀ (Hz : Hp), Same (upd H3 u (.tup [.int ((j : Nat) : Int)])) Hz → Ch f HB Hz ∧ FeedAt Hz f ∧ Hz l = some (.lst ((lv.eraseIdx k2).map fun j => V.int ((j : Nat) : Int))) := fun Hz sz => by
        have w := su.trans sz
        exact ⟨cx2.trans (Ch.of_same w), fe3.same w, w _ _ hl3⟩
      have jl2 : (js ++ [j]).length + (lv.eraseIdx k2).length = ks.length := by rw [List.length_append, List.length_singleton]; omega
      have hjs2 : ∀ x ∈ js ++ [j], x < ks.length := fun x hx => by
        rcases List.mem_append.mp hx with z | z
        · exact hjs x z
        · rw [List.mem_singleton.mp z]; exact hlv j (List.mem_of_getElem? hj)
      have hlv2 : ∀ x ∈ lv.eraseIdx k2, x < ks.length := fun x hx => hlv x (List.mem_of_mem_eraseIdx hx)
      refine ⟨o, u, js.map (fun j => V.int ((j : Nat) : Int)), [.int ((j : Nat) : Int)], rfl, rfl, SqT.of (su _ _ ho3), SqT.of eu, Nat.le_of_lt (small3000 (by rw [List.length_map]; show js.length + 1 ≤ 3000; omega)), fun hz => ?_, fun _ z => absurd z (List.cons_ne_nil _ _), fun _ _ q nq => ?_⟩
      · have : js = [] := List.map_eq_nil_iff.mp hz
        subst this
        obtain ⟨f1, f2, f3⟩ := fin _ (Same.refl _)
        exact ⟨(lv.eraseIdx k2).length, by omega, u, [j], lv.eraseIdx k2, rfl, f1, f2, f3, eu, hjs2, hlv2, jl2, _, _, _, _, _, _, _, _, _, _, _, _, _, rfl⟩
      · obtain ⟨f1, f2, f3⟩ := fin _ (same_new (o := .tup ((js.map fun j => V.int ((j : Nat) : Int)) ++ [V.int ((j : Nat) : Int)])) nq)
        exact ⟨(lv.eraseIdx k2).length, by omega, q, js ++ [j], lv.eraseIdx k2, rfl, f1, f2, f3, by rw [upd_same, List.map_append]; rfl, hjs2, hlv2, jl2, _, _, _, _, _, _, _, _, _, _, _, _, _, rfl⟩
    rw [decide_eq_true (show (lv.map fun j => ((j : Nat) : Int)) = [] by rw [hne]; rfl)]
    refine iteF ?_
    have g1 := g.ch cx1 fe1
    have jl7 : js.length ≤ 7 := by omega
    clear hl1 cx1 fe1 hlv jl hne elv nlf nl g HB
    -- load
    refine ⟨Nat.zero_le _, fun L nL => ?_⟩
    have sL := same_new (o := .lst []) nL
    have ho2 := sL _ _ ho1
    have g2 := g1.same sL
    have eL := upd_same (H := H1) (a := L) (o := .lst [])
    generalize upd H1 L (.lst []) = H2 at sL ho2 g2 eL ⊢
    have kb : ∀ t ∈ ks.map (·.1), t.length ≤ 30 := fun t ht => by
      obtain ⟨y, hy, rfl⟩ := List.mem_map.mp ht
      exact (sk y hy).1
    have hjs' : ∀ j ∈ js, j < (ks.map (·.1)).length := fun j hj => by rw [List.length_map]; exact hjs j hj
    refine ⟨.ref o, rfl, o, rfl, ⟨_, SqT.of ho2⟩, for_tup (K := K) (a := o) (xs := js.map fun j => V.int ((j : Nat) : Int)) (fun i σ Hx => Same H2 Hx ∧ ∃ (L : Addr), Hx L = some (.lst ((lod (ks.map (·.1)) (js.take i)).map V.int)) ∧ ∃ r1 r3 r5 r6 r9 r10 r11 r15 r19 r20 r21 r22 : Option V, σ = [some (.ref a), r1, some (.ref f), r3, some (.ref p), r5, r6, some (.int fr), some (.ref e), r9, r10, r11, some (.ref tb), some (.str (PyData.list (ks.map dPk)).shown), some (.str (dTl es).shown), r15, some (.ref l), some (.ref o), some (.ref L), r19, r20, r21, r22]) ⟨Same.refl _, L, eL, _, _, _, _, _, _, _, _, _, _, _, _, rfl⟩ (fun i σ Hx _ gx => SqT.of (gx.1 _ _ ho2)) ?_ ?_⟩
    · rintro i v σ Hx hv ⟨sx, L2, eL2, r1, r3, r5, r6, r9, r10, r11, r15, r19, r20, r21, r22, rfl⟩
      obtain ⟨j, hji, rfl⟩ : ∃ j, js[i]? = some j ∧ v = V.int ((j : Nat) : Int) := by
        rw [List.getElem?_map] at hv
        cases e9 : js[i]? with
        | none => rw [e9] at hv; cases hv
        | some j => rw [e9] at hv; exact ⟨j, rfl, (Option.some.inj hv).symm⟩
      have jlt := hjs' j (List.mem_of_getElem? hji)
      obtain ⟨t, ht⟩ : ∃ t, (ks.map (·.1))[j]? = some t := ⟨_, List.getElem?_eq_getElem jlt⟩
      have gx := g2.same sx
      obtain ⟨a2, hxa, hsa⟩ := (gx.pk.pcs (K := K)).get ht
      have lb := lod_bound kb (js.take i)
      have tb30 := kb t (List.mem_of_getElem? ht)
      have htl : (js.take i).length ≤ 7 := by rw [List.length_take]; omega
      refine ⟨.ref L2, rfl, .ref p, rfl, .int ((j : Nat) : Int), rfl, p, xs, ((j : Nat) : Int), .ref a2, rfl, rfl, SqL.of gx.hp, atI_nat hxa, a2, _, rfl, hsa, fun l2 nl2 => ?_⟩
      have sl2 := same_new (o := .lst (t.map V.int)) nl2
      refine ⟨L2, l2, _, _, rfl, rfl, sl2 _ _ eL2, upd_same, Nat.le_of_lt (small3000 (by rw [List.length_map, List.length_map]; omega)), fun z nz => ?_⟩
      have sz := same_new (o := .lst ((lod (ks.map (·.1)) (js.take i)).map V.int ++ t.map V.int)) nz
      refine ⟨sx.trans (sl2.trans sz), z, ?_, _, _, _, _, _, _, _, _, _, _, _, _, rfl⟩
      rw [upd_same, lod_take hji ht, List.map_append]
    rintro σ H3 ⟨s3, L2, eL2, r1, r3, r5, r6, r9, r10, r11, r15, r19, r20, r21, r22, rfl⟩
    rw [List.length_map, List.take_length] at eL2
    have g3 := g2.same s3
    have ho3 := s3 _ _ ho2
    have lb := lod_bound kb js
    have lb2 : (lod (ks.map (·.1)) js).length ≤ 210 := by omega
    clear s3 eL sL ho1 ho2 g2 g1 lb nL
    clear L H2 H1
    -- open_wear
    refine ⟨.ref p, rfl, .ref o, rfl, .ref tb, rfl, p, o, tb, xs, ks.map (·.1), js, es, false, rfl, .inl (SqL.of g3.hp), g3.pk.pcs, ho3, hjs', by omega, g3.tab, by omega, fun H4 hs1 s4 hv1 => ?_⟩
    have g4 := g3.same s4
    have ho4 := s4 _ _ ho3
    have eL4 := s4 _ _ eL2
    refine ⟨.int (wear es hs1), rfl, .ref f, rfl, .ref L2, rfl, .ref e, rfl, f, L2, e, _, ys, es, false, rfl, SqL.of eL4, by omega, SqL.of g4.he, g4.tr, gd, fun H5 hs2 s5 hv2 => ⟨rfl, _, rfl, iteNS (congrArg V.int (wear_halv hv1 hv2)) ?_⟩⟩
    have g5 := g4.same s5
    refine ⟨.ref p, rfl, p, _, rfl, dpP g5, niceP, .str _, rfl, rfl, _, rfl, iteNS rfl ?_⟩
    have ho5 := s5 _ _ ho4
    have eL5 := s5 _ _ eL4
    refine ⟨.ref p, rfl, .ref o, rfl, .ref tb, rfl, rfl, rfl, p, o, tb, xs, ks.map (·.1), js, es, false, rfl, .inl (SqL.of g5.hp), g5.pk.pcs, ho5, hjs', by omega, g5.tab, by omega, fun H6 hs3 s6 hv3 => ?_⟩
    refine ⟨.int (wear es hs1), rfl, rfl, _, rfl, iteNS (congrArg V.int (wear_halv hv3 hv1)) ?_⟩
    have g6 := g5.same s6
    have ho6 := s6 _ _ ho5
    have eL6 := s6 _ _ eL5
    refine ⟨.ref p, rfl, p, xs, rfl, .inl ⟨SqL.of g6.hp, fun u nu => ?_⟩⟩
    have su := same_new (o := .tup xs) nu
    have g7 := g6.same su
    refine ⟨.ref o, rfl, .ref tb, rfl, rfl, rfl, u, o, tb, xs, ks.map (·.1), js, es, true, rfl, .inr (SqT.of upd_same), g7.pk.pcs, su _ _ ho6, hjs', by omega, g7.tab, by omega, fun H8 hs4 s8 hv4 => ?_⟩
    have g8 := g7.same s8
    have eL8 := s8 _ _ (su _ _ eL6)
    refine ⟨.int (wear es hs4), rfl, .ref f, rfl, .ref L2, rfl, .ref e, rfl, f, L2, e, _, ys, es, true, rfl, SqL.of eL8, by omega, SqL.of g8.he, g8.tr, gd, fun H9 hs5 s9 hv5 => ⟨rfl, _, rfl, iteNS (congrArg V.int (wear_halv hv4 hv5)) ?_⟩⟩
    have g9 := g8.same s9
    obtain ⟨dx1, t1, zs1, hx1, ht1, tr1⟩ := tellT g9
    refine ⟨.ref tb, rfl, tb, CT_, dx1, _, .ref t1, rfl, hx1, T.tbl.cl, T.tbl.nE, rfl, .ref tb, rfl, tb, dx1, _, rfl, hx1, tb, es, rfl, g9.tab, by omega, sml, fun H12 s12 => ⟨_, rfl, l2s, fun u nu => ?_⟩⟩
    have su := same_new (o := .tup [.ref t1, .str (ttx es)]) nu
    have w12 := s12.trans su
    refine ⟨u, dTl es, rfl, .tup (SqT.of upd_same) (.cons (.tup (SqT.of (w12 _ _ ht1)) (dp_trips (tr1.same w12))) (.cons (.str _) .nil)), niceT, .str _, rfl, rfl, _, rfl, iteNS rfl ?_⟩
    exact ⟨g9.same w12, _, _, _, _, _, _, _, _, _, _, _, _, _, _, _, rfl⟩
end
end H8L

set_option pp.maxSteps 300
namespace H8E
open PySem PySem.Spec PyProof.Rows L2 KA KD KL PH PM PA PB PC RM RN RS QE QF QG QH K20 K52b UJN VQ WF2 WP XU H8W H8V
open XT hiding pairs_get
open K9 (Cn cn_one)
open WN (ti ti_len ti_log len_app join_len sum_le)
open H8T H8L
theorem all_mk {l : PySem.W.OpenLaw} {w : World} {K : PySem.W.Frag} {h : Heap} {mg : Str → Option Value} {fa fRG fTP fIL fBT fSW fMT fPB fCN fCP fCC fHC fFE fTA fPI fLO fLP fLR fLH fPL fCT fHV fIV fEN fAm fWe fCl fDu fWO kDWO C fIN pO fOF pC fPC p3 fPH CT_ fUI fUA fUW fUS fLAW : Addr} (X : K.In h) (G : h.Ns mainGlobals mg) (hfa : mg "law" = some (.ref fa))
    {odRG anRG odTP anTP odIL anIL odBT anBT odSW anSW odMT anMT odPB anPB odCN anCN odCP anCP odCC anCC odHC anHC odFE anFE odTA anTA odPI anPI odLO anLO odLP anLP odLR anLR odLH anLH odPL anPL odCT anCT odHV anHV odIV anIV odEN anEN odAm anAm odWe anWe odCl anCl odDu anDu odWO anWO odIN anIN odOF anOF odPC anPC odPH anPH odUI anUI odUA anUA odUW anUW odUS anUS odLAW anLAW : Option Addr} {slRG slTP slIL slBT slSW slMT slPB slCN slCP slCC slHC slFE slTA slPI slLO slLP slLR slLH slPL slCT slHV slIV slEN slAm slWe slCl slDu slWO slIN slOF slPC slPH slUI slUA slUW slUS slLAW : Array (Option Value)} {ocRG dcRG pmRG cdRG ctRG kVRG ocTP dcTP pmTP cdTP ctTP kVTP ocIL dcIL pmIL cdIL ctIL kVIL ocBT dcBT pmBT cdBT ctBT kVBT ocSW dcSW pmSW cdSW ctSW kVSW ocMT dcMT pmMT cdMT ctMT kVMT ocPB dcPB pmPB cdPB ctPB kVPB ocCN dcCN pmCN cdCN ctCN kVCN ocCP dcCP pmCP cdCP ctCP kVCP ocCC dcCC pmCC cdCC ctCC kVCC ocHC dcHC pmHC cdHC ctHC kVHC ocFE dcFE pmFE cdFE ctFE kVFE ocTA dcTA pmTA cdTA ctTA kVTA ocPI dcPI pmPI cdPI ctPI kVPI ocLO dcLO pmLO cdLO ctLO kVLO ocLP dcLP pmLP cdLP ctLP kVLP ocLR dcLR pmLR cdLR ctLR kVLR ocLH dcLH pmLH cdLH ctLH kVLH ocPL dcPL pmPL cdPL ctPL kVPL ocCT dcCT pmCT cdCT ctCT kVCT ocHV dcHV pmHV cdHV ctHV kVHV ocIV dcIV pmIV cdIV ctIV kVIV ocEN dcEN pmEN cdEN ctEN kVEN ocAm dcAm pmAm cdAm ctAm kVAm ocWe dcWe pmWe cdWe ctWe kVWe ocCl dcCl pmCl cdCl ctCl kVCl ocDu dcDu pmDu cdDu ctDu kVDu ocWO dcWO pmWO cdWO ctWO ocIN dcIN pmIN cdIN ctIN kVIN ocOF dcOF pmOF cdOF ctOF kVOF ocPC dcPC pmPC cdPC ctPC kVPC ocPH dcPH pmPH cdPH ctPH kVPH ocUI dcUI pmUI cdUI ctUI kVUI ocUA dcUA pmUA cdUA ctUA kVUA ocUW dcUW pmUW cdUW ctUW kVUW ocUS dcUS pmUS cdUS ctUS kVUS ocLAW dcLAW pmLAW cdLAW ctLAW kVLAW : Value} {rOF rPC rPH : List Value}
    (aRG : PySem.W.nsIn K mainGlobals "range_of" = some (some (.ref fRG)))
    (lRG : K.lookup fRG = some ⟨ocRG, odRG, .func (PySem.W.fnOf "range_of" "range_of" (defArgs sRng) (defBody sRng) (defScope sRng) .none kVRG dcRG pmRG anRG cdRG ctRG), slRG⟩)
    (cRG : PySem.W.codeIn K cdRG "range_of" = true)
    (kRG : PySem.W.keepIn K (.ref fRG) = true)
    (aTP : PySem.W.nsIn K mainGlobals "turning_points" = some (some (.ref fTP)))
    (lTP : K.lookup fTP = some ⟨ocTP, odTP, .func (PySem.W.fnOf "turning_points" "turning_points" (defArgs sTP) (defBody sTP) (defScope sTP) .none kVTP dcTP pmTP anTP cdTP ctTP), slTP⟩)
    (cTP : PySem.W.codeIn K cdTP "turning_points" = true)
    (kTP : PySem.W.keepIn K (.ref fTP) = true)
    (aIL : PySem.W.nsIn K mainGlobals "is_left_out" = some (some (.ref fIL)))
    (lIL : K.lookup fIL = some ⟨ocIL, odIL, .func (PySem.W.fnOf "is_left_out" "is_left_out" (defArgs sLO) (defBody sLO) (defScope sLO) .none kVIL dcIL pmIL anIL cdIL ctIL), slIL⟩)
    (cIL : PySem.W.codeIn K cdIL "is_left_out" = true)
    (kIL : PySem.W.keepIn K (.ref fIL) = true)
    (aBT : PySem.W.nsIn K mainGlobals "_lies_between" = some (some (.ref fBT)))
    (lBT : K.lookup fBT = some ⟨ocBT, odBT, .func (PySem.W.fnOf "_lies_between" "_lies_between" (defArgs sBtw) (defBody sBtw) (defScope sBtw) .none kVBT dcBT pmBT anBT cdBT ctBT), slBT⟩)
    (cBT : PySem.W.codeIn K cdBT "_lies_between" = true)
    (kBT : PySem.W.keepIn K (.ref fBT) = true)
    (aSW : PySem.W.nsIn K mainGlobals "swings" = some (some (.ref fSW)))
    (lSW : K.lookup fSW = some ⟨ocSW, odSW, .func (PySem.W.fnOf "swings" "swings" (defArgs sSw) (defBody sSw) (defScope sSw) .none kVSW dcSW pmSW anSW cdSW ctSW), slSW⟩)
    (cSW : PySem.W.codeIn K cdSW "swings" = true)
    (kSW : PySem.W.keepIn K (.ref fSW) = true)
    (aMT : PySem.W.nsIn K mainGlobals "_may_be_taken" = some (some (.ref fMT)))
    (lMT : K.lookup fMT = some ⟨ocMT, odMT, .func (PySem.W.fnOf "_may_be_taken" "_may_be_taken" (defArgs sMT) (defBody sMT) (defScope sMT) .none kVMT dcMT pmMT anMT cdMT ctMT), slMT⟩)
    (cMT : PySem.W.codeIn K cdMT "_may_be_taken" = true)
    (kMT : PySem.W.keepIn K (.ref fMT) = true)
    (aPB : PySem.W.nsIn K mainGlobals "put_behind" = some (some (.ref fPB)))
    (lPB : K.lookup fPB = some ⟨ocPB, odPB, .func (PySem.W.fnOf "put_behind" "put_behind" (defArgs sPB) (defBody sPB) (defScope sPB) .none kVPB dcPB pmPB anPB cdPB ctPB), slPB⟩)
    (cPB : PySem.W.codeIn K cdPB "put_behind" = true)
    (kPB : PySem.W.keepIn K (.ref fPB) = true)
    (aCN : PySem.W.nsIn K mainGlobals "_counted" = some (some (.ref fCN)))
    (lCN : K.lookup fCN = some ⟨ocCN, odCN, .func (PySem.W.fnOf "_counted" "_counted" (defArgs sCo) (defBody sCo) (defScope sCo) .none kVCN dcCN pmCN anCN cdCN ctCN), slCN⟩)
    (cCN : PySem.W.codeIn K cdCN "_counted" = true)
    (kCN : PySem.W.keepIn K (.ref fCN) = true)
    (aCP : PySem.W.nsIn K mainGlobals "closed_points" = some (some (.ref fCP)))
    (lCP : K.lookup fCP = some ⟨ocCP, odCP, .func (PySem.W.fnOf "closed_points" "closed_points" (defArgs sCP) (defBody sCP) (defScope sCP) .none kVCP dcCP pmCP anCP cdCP ctCP), slCP⟩)
    (cCP : PySem.W.codeIn K cdCP "closed_points" = true)
    (kCP : PySem.W.keepIn K (.ref fCP) = true)
    (aCC : PySem.W.nsIn K mainGlobals "closed_cycles" = some (some (.ref fCC)))
    (lCC : K.lookup fCC = some ⟨ocCC, odCC, .func (PySem.W.fnOf "closed_cycles" "closed_cycles" (defArgs sCC) (defBody sCC) (defScope sCC) .none kVCC dcCC pmCC anCC cdCC ctCC), slCC⟩)
    (cCC : PySem.W.codeIn K cdCC "closed_cycles" = true)
    (kCC : PySem.W.keepIn K (.ref fCC) = true)
    (aHC : PySem.W.nsIn K mainGlobals "_half_cycles" = some (some (.ref fHC)))
    (lHC : K.lookup fHC = some ⟨ocHC, odHC, .func (PySem.W.fnOf "_half_cycles" "_half_cycles" (defArgs sHC) (defBody sHC) (defScope sHC) .none kVHC dcHC pmHC anHC cdHC ctHC), slHC⟩)
    (cHC : PySem.W.codeIn K cdHC "_half_cycles" = true)
    (kHC : PySem.W.keepIn K (.ref fHC) = true)
    (aFE : PySem.W.nsIn K mainGlobals "_law_feed" = some (some (.ref fFE)))
    (lFE : K.lookup fFE = some ⟨ocFE, odFE, .func (PySem.W.fnOf "_law_feed" "_law_feed" (defArgs sFeed) (defBody sFeed) (defScope sFeed) .none kVFE dcFE pmFE anFE cdFE ctFE), slFE⟩)
    (cFE : PySem.W.codeIn K cdFE "_law_feed" = true)
    (kFE : PySem.W.keepIn K (.ref fFE) = true)
    (aTA : PySem.W.nsIn K mainGlobals "_law_take" = some (some (.ref fTA)))
    (lTA : K.lookup fTA = some ⟨ocTA, odTA, .func (PySem.W.fnOf "_law_take" "_law_take" (defArgs sTake) (defBody sTake) (defScope sTake) .none kVTA dcTA pmTA anTA cdTA ctTA), slTA⟩)
    (cTA : PySem.W.codeIn K cdTA "_law_take" = true)
    (kTA : PySem.W.keepIn K (.ref fTA) = true)
    (aPI : PySem.W.nsIn K mainGlobals "_law_pick" = some (some (.ref fPI)))
    (lPI : K.lookup fPI = some ⟨ocPI, odPI, .func (PySem.W.fnOf "_law_pick" "_law_pick" (defArgs sPick) (defBody sPick) (defScope sPick) .none kVPI dcPI pmPI anPI cdPI ctPI), slPI⟩)
    (cPI : PySem.W.codeIn K cdPI "_law_pick" = true)
    (kPI : PySem.W.keepIn K (.ref fPI) = true)
    (aLO : PySem.W.nsIn K mainGlobals "_law_load" = some (some (.ref fLO)))
    (lLO : K.lookup fLO = some ⟨ocLO, odLO, .func (PySem.W.fnOf "_law_load" "_law_load" (defArgs sLoad) (defBody sLoad) (defScope sLoad) .none kVLO dcLO pmLO anLO cdLO ctLO), slLO⟩)
    (cLO : PySem.W.codeIn K cdLO "_law_load" = true)
    (kLO : PySem.W.keepIn K (.ref fLO) = true)
    (aLP : PySem.W.nsIn K mainGlobals "_law_points" = some (some (.ref fLP)))
    (lLP : K.lookup fLP = some ⟨ocLP, odLP, .func (PySem.W.fnOf "_law_points" "_law_points" (defArgs sLP) (defBody sLP) (defScope sLP) .none kVLP dcLP pmLP anLP cdLP ctLP), slLP⟩)
    (cLP : PySem.W.codeIn K cdLP "_law_points" = true)
    (kLP : PySem.W.keepIn K (.ref fLP) = true)
    (aLR : PySem.W.nsIn K mainGlobals "_law_range" = some (some (.ref fLR)))
    (lLR : K.lookup fLR = some ⟨ocLR, odLR, .func (PySem.W.fnOf "_law_range" "_law_range" (defArgs sLR) (defBody sLR) (defScope sLR) .none kVLR dcLR pmLR anLR cdLR ctLR), slLR⟩)
    (cLR : PySem.W.codeIn K cdLR "_law_range" = true)
    (kLR : PySem.W.keepIn K (.ref fLR) = true)
    (aLH : PySem.W.nsIn K mainGlobals "_law_holds" = some (some (.ref fLH)))
    (lLH : K.lookup fLH = some ⟨ocLH, odLH, .func (PySem.W.fnOf "_law_holds" "_law_holds" (defArgs sLH) (defBody sLH) (defScope sLH) .none kVLH dcLH pmLH anLH cdLH ctLH), slLH⟩)
    (cLH : PySem.W.codeIn K cdLH "_law_holds" = true)
    (kLH : PySem.W.keepIn K (.ref fLH) = true)
    (aPL : PySem.W.nsIn K mainGlobals "_law_places" = some (some (.ref fPL)))
    (lPL : K.lookup fPL = some ⟨ocPL, odPL, .func (PySem.W.fnOf "_law_places" "_law_places" (defArgs sPl) (defBody sPl) (defScope sPl) .none kVPL dcPL pmPL anPL cdPL ctPL), slPL⟩)
    (cPL : PySem.W.codeIn K cdPL "_law_places" = true)
    (kPL : PySem.W.keepIn K (.ref fPL) = true)
    (aCT : PySem.W.nsIn K mainGlobals "_law_count" = some (some (.ref fCT)))
    (lCT : K.lookup fCT = some ⟨ocCT, odCT, .func (PySem.W.fnOf "_law_count" "_law_count" (defArgs sCt) (defBody sCt) (defScope sCt) .none kVCT dcCT pmCT anCT cdCT ctCT), slCT⟩)
    (cCT : PySem.W.codeIn K cdCT "_law_count" = true)
    (kCT : PySem.W.keepIn K (.ref fCT) = true)
    (aHV : PySem.W.nsIn K mainGlobals "_law_halves" = some (some (.ref fHV)))
    (lHV : K.lookup fHV = some ⟨ocHV, odHV, .func (PySem.W.fnOf "_law_halves" "_law_halves" (defArgs sHv) (defBody sHv) (defScope sHv) .none kVHV dcHV pmHV anHV cdHV ctHV), slHV⟩)
    (cHV : PySem.W.codeIn K cdHV "_law_halves" = true)
    (kHV : PySem.W.keepIn K (.ref fHV) = true)
    (aIV : PySem.W.nsIn K mainGlobals "_law_interval" = some (some (.ref fIV)))
    (lIV : K.lookup fIV = some ⟨ocIV, odIV, .func (PySem.W.fnOf "_law_interval" "_law_interval" (defArgs sIv) (defBody sIv) (defScope sIv) .none kVIV dcIV pmIV anIV cdIV ctIV), slIV⟩)
    (cIV : PySem.W.codeIn K cdIV "_law_interval" = true)
    (kIV : PySem.W.keepIn K (.ref fIV) = true)
    (aEN : PySem.W.nsIn K mainGlobals "_law_entries" = some (some (.ref fEN)))
    (lEN : K.lookup fEN = some ⟨ocEN, odEN, .func (PySem.W.fnOf "_law_entries" "_law_entries" (defArgs sEn) (defBody sEn) (defScope sEn) .none kVEN dcEN pmEN anEN cdEN ctEN), slEN⟩)
    (cEN : PySem.W.codeIn K cdEN "_law_entries" = true)
    (kEN : PySem.W.keepIn K (.ref fEN) = true)
    (aAm : PySem.W.nsIn K mainGlobals "_law_amount" = some (some (.ref fAm)))
    (lAm : K.lookup fAm = some ⟨ocAm, odAm, .func (PySem.W.fnOf "_law_amount" "_law_amount" (defArgs sAm) (defBody sAm) (defScope sAm) .none kVAm dcAm pmAm anAm cdAm ctAm), slAm⟩)
    (cAm : PySem.W.codeIn K cdAm "_law_amount" = true)
    (kAm : PySem.W.keepIn K (.ref fAm) = true)
    (aWe : PySem.W.nsIn K mainGlobals "_law_wear" = some (some (.ref fWe)))
    (lWe : K.lookup fWe = some ⟨ocWe, odWe, .func (PySem.W.fnOf "_law_wear" "_law_wear" (defArgs sWe) (defBody sWe) (defScope sWe) .none kVWe dcWe pmWe anWe cdWe ctWe), slWe⟩)
    (cWe : PySem.W.codeIn K cdWe "_law_wear" = true)
    (kWe : PySem.W.keepIn K (.ref fWe) = true)
    (aCl : PySem.W.nsIn K mainGlobals "_law_closed" = some (some (.ref fCl)))
    (lCl : K.lookup fCl = some ⟨ocCl, odCl, .func (PySem.W.fnOf "_law_closed" "_law_closed" (defArgs sCl) (defBody sCl) (defScope sCl) .none kVCl dcCl pmCl anCl cdCl ctCl), slCl⟩)
    (cCl : PySem.W.codeIn K cdCl "_law_closed" = true)
    (kCl : PySem.W.keepIn K (.ref fCl) = true)
    (aDu : PySem.W.nsIn K mainGlobals "_law_due" = some (some (.ref fDu)))
    (lDu : K.lookup fDu = some ⟨ocDu, odDu, .func (PySem.W.fnOf "_law_due" "_law_due" (defArgs sDu) (defBody sDu) (defScope sDu) .none kVDu dcDu pmDu anDu cdDu ctDu), slDu⟩)
    (cDu : PySem.W.codeIn K cdDu "_law_due" = true)
    (kDu : PySem.W.keepIn K (.ref fDu) = true)
    (aWO : PySem.W.nsIn K mainGlobals "wear_of" = some (some (.ref fWO)))
    (lWO : K.lookup fWO = some ⟨ocWO, odWO, .func (PySem.W.fnOf "wear_of" "wear_of" (defArgs sWO) (defBody sWO) (defScope sWO) .none (.ref kDWO) dcWO pmWO anWO cdWO ctWO), slWO⟩)
    (cWO : PySem.W.codeIn K cdWO "wear_of" = true)
    (kWO : PySem.W.keepIn K (.ref fWO) = true)
    (wWO : PySem.W.nsIn K kDWO "closed" = some (some (Value.bool false)))
    (aC : PySem.W.nsIn K mainGlobals "Count" = some (some (.ref C)))
    (pg : PySem.W.plainGet K C Str.empty = true)
    (hd : PySem.W.hasDictIn K C = true)
    (po : PySem.W.plainOver K C = true)
    (sa : PySem.W.findIn K (.ref C) "__setattr__" = some (some (.builtin "object.__setattr__")))
    (na0 : PySem.W.findIn K (.ref C) "_cycles" = some none)
    (na1 : PySem.W.findIn K (.ref C) "_rest" = some none)
    (mk : PySem.W.makesIn K C = true)
    (kc : PySem.W.keepIn K (.ref C) = true)
    (aI : PySem.W.findIn K (.ref C) "__init__" = some (some (.ref fIN)))
    (iI : PySem.W.isFn K (.ref fIN) = true)
    (lIN : K.lookup fIN = some ⟨ocIN, odIN, .func (PySem.W.fnOf "__init__" "Count.__init__" (defArgs sInit) (defBody sInit) (defScope sInit) .none kVIN dcIN pmIN anIN cdIN ctIN), slIN⟩)
    (cIN : PySem.W.codeIn K cdIN "Count.__init__" = true)
    (kIN : PySem.W.keepIn K (.ref fIN) = true)
    (rdOF : PySem.W.readsIn K C (.type "type") = true)
    (gaOF : PySem.W.specialIn K (.ref C) "__getattribute__" = some (some (.builtin "type.__getattribute__")))
    (aOF : PySem.W.findCls K (.ref C) (.type "type") "of" = some (.get (.builtin "classmethod.__get__") (.ref pO) .none (.ref C)))
    (rcOF : PySem.W.recIn K pO "classmethod" = some (.ref fOF :: rOF))
    (fiOF : PySem.W.fnIn K fOF = true)
    (lOF : K.lookup fOF = some ⟨ocOF, odOF, .func (PySem.W.fnOf "of" "Count.of" (defArgs sOf) (defBody sOf) (defScope sOf) .none kVOF dcOF pmOF anOF cdOF ctOF), slOF⟩)
    (cOF : PySem.W.codeIn K cdOF "Count.of" = true)
    (kOF : PySem.W.keepIn K (.ref fOF) = true)
    (aPPC : PySem.W.findIn K (.ref C) "cycles" = some (some (.ref pC)))
    (gPPC : PySem.W.specialIn K (.ref pC) "__get__" = some (some (.builtin "property.__get__")))
    (tPPC : PySem.W.takesIn K (.ref pC) = some true)
    (rcPPC : PySem.W.recIn K pC "property" = some (.ref fPC :: rPC))
    (lPC : K.lookup fPC = some ⟨ocPC, odPC, .func (PySem.W.fnOf "cycles" "Count.cycles" (defArgs sPC) (defBody sPC) (defScope sPC) .none kVPC dcPC pmPC anPC cdPC ctPC), slPC⟩)
    (cPC : PySem.W.codeIn K cdPC "Count.cycles" = true)
    (kPC : PySem.W.keepIn K (.ref fPC) = true)
    (aPPH : PySem.W.findIn K (.ref C) "half_cycles" = some (some (.ref p3)))
    (gPPH : PySem.W.specialIn K (.ref p3) "__get__" = some (some (.builtin "property.__get__")))
    (tPPH : PySem.W.takesIn K (.ref p3) = some true)
    (rcPPH : PySem.W.recIn K p3 "property" = some (.ref fPH :: rPH))
    (lPH : K.lookup fPH = some ⟨ocPH, odPH, .func (PySem.W.fnOf "half_cycles" "Count.half_cycles" (defArgs sPH) (defBody sPH) (defScope sPH) .none kVPH dcPH pmPH anPH cdPH ctPH), slPH⟩)
    (cPH : PySem.W.codeIn K cdPH "Count.half_cycles" = true)
    (kPH : PySem.W.keepIn K (.ref fPH) = true)
    (aCTb : PySem.W.nsIn K mainGlobals "Table" = some (some (.ref CT_)))
    (pgTb : PySem.W.plainGet K CT_ Str.empty = true)
    (hdTb : PySem.W.hasDictIn K CT_ = true)
    (poTb : PySem.W.plainOver K CT_ = true)
    (saTb : PySem.W.findIn K (.ref CT_) "__setattr__" = some (some (.builtin "object.__setattr__")))
    (na0Tb : PySem.W.findIn K (.ref CT_) "entries" = some none)
    (mkTb : PySem.W.makesIn K CT_ = true)
    (kcTb : PySem.W.keepIn K (.ref CT_) = true)
    (aITb : PySem.W.findIn K (.ref CT_) "__init__" = some (some (.ref fUI)))
    (iITb : PySem.W.isFn K (.ref fUI) = true)
    (lUI : K.lookup fUI = some ⟨ocUI, odUI, .func (PySem.W.fnOf "__init__" "Table.__init__" (defArgs sTI) (defBody sTI) (defScope sTI) .none kVUI dcUI pmUI anUI cdUI ctUI), slUI⟩)
    (cUI : PySem.W.codeIn K cdUI "Table.__init__" = true)
    (kUI : PySem.W.keepIn K (.ref fUI) = true)
    (aUA : PySem.W.findIn K (.ref CT_) "amount" = some (some (.ref fUA)))
    (iUA : PySem.W.isFn K (.ref fUA) = true)
    (lUA : K.lookup fUA = some ⟨ocUA, odUA, .func (PySem.W.fnOf "amount" "Table.amount" (defArgs sTA) (defBody sTA) (defScope sTA) .none kVUA dcUA pmUA anUA cdUA ctUA), slUA⟩)
    (cUA : PySem.W.codeIn K cdUA "Table.amount" = true)
    (kUA : PySem.W.keepIn K (.ref fUA) = true)
    (aUW : PySem.W.findIn K (.ref CT_) "wear" = some (some (.ref fUW)))
    (iUW : PySem.W.isFn K (.ref fUW) = true)
    (lUW : K.lookup fUW = some ⟨ocUW, odUW, .func (PySem.W.fnOf "wear" "Table.wear" (defArgs sTW) (defBody sTW) (defScope sTW) .none kVUW dcUW pmUW anUW cdUW ctUW), slUW⟩)
    (cUW : PySem.W.codeIn K cdUW "Table.wear" = true)
    (kUW : PySem.W.keepIn K (.ref fUW) = true)
    (aUS : PySem.W.findIn K (.ref CT_) "__str__" = some (some (.ref fUS)))
    (iUS : PySem.W.isFn K (.ref fUS) = true)
    (lUS : K.lookup fUS = some ⟨ocUS, odUS, .func (PySem.W.fnOf "__str__" "Table.__str__" (defArgs H8T.sTS) (defBody H8T.sTS) (defScope H8T.sTS) .none kVUS dcUS pmUS anUS cdUS ctUS), slUS⟩)
    (cUS : PySem.W.codeIn K cdUS "Table.__str__" = true)
    (kUS : PySem.W.keepIn K (.ref fUS) = true)
    (z1 : PySem.W.nsIn K mainGlobals "len" = some none)
    (z2 : PySem.W.nsIn K mainGlobals "zip" = some none)
    (z3 : PySem.W.nsIn K mainGlobals "max" = some none)
    (z4 : PySem.W.nsIn K mainGlobals "min" = some none)
    (z5 : PySem.W.nsIn K mainGlobals "abs" = some none)
    (z6 : PySem.W.nsIn K mainGlobals "range" = some none)
    (z7 : PySem.W.nsIn K mainGlobals "sorted" = some none)
    (z8 : PySem.W.nsIn K mainGlobals "tuple" = some none)
    (z9 : PySem.W.nsIn K mainGlobals "list" = some none)
    (z10 : PySem.W.nsIn K mainGlobals "int" = some none)
    (z11 : PySem.W.nsIn K mainGlobals "repr" = some none)
    (z12 : PySem.W.nsIn K mainGlobals "str" = some none)
    (z13 : PySem.W.nsIn K mainGlobals "sum" = some none)
    (aLAW : PySem.W.nsIn K mainGlobals "law" = some (some (.ref fLAW)))
    (lLAW : K.lookup fLAW = some ⟨ocLAW, odLAW, .func (PySem.W.fnOf "law" "law" (defArgs H8T.sLaw) (defBody H8T.sLaw) (defScope H8T.sLaw) .none kVLAW dcLAW pmLAW anLAW cdLAW ctLAW), slLAW⟩)
    (cLAW : PySem.W.codeIn K cdLAW "law" = true)
    (kLAW : PySem.W.keepIn K (.ref fLAW) = true) :
    ∃ fd : FuncData, (∀ (s : Shared) (v : Value), BindsTo s fd ⟨[v], []⟩ [("script", v)]) ∧ ∀ base : Heap, K.In base → base.Ns mainGlobals mg → KW.Kept l.prog w K mg base 9 fa fd ["script"] (H8L.spLaw K) := by
  have e := hfa.symm.trans (PySem.W.mg_of X G aLAW)
  cases e
  have FRG := fun_mk (st := sRng) lRG cRG kRG
  have bRG := FRG.binds (ps := ["one", "other"]) fun _ _ _ _ _ _ us hl => match us, hl with | [_, _], _ => rfl
  have FTP := fun_mk (st := sTP) lTP cTP kTP
  have bTP := FTP.binds (ps := ["load"]) fun _ _ _ _ _ _ us hl => match us, hl with | [_], _ => rfl
  have FIL := fun_mk (st := sLO) lIL cIL kIL
  have bIL := FIL.binds (ps := ["points", "reading"]) fun _ _ _ _ _ _ us hl => match us, hl with | [_, _], _ => rfl
  have FBT := fun_mk (st := sBtw) lBT cBT kBT
  have bBT := FBT.binds (ps := ["reading", "before", "after"]) fun _ _ _ _ _ _ us hl => match us, hl with | [_, _, _], _ => rfl
  have FSW := fun_mk (st := sSw) lSW cSW kSW
  have bSW := FSW.binds (ps := ["load"]) fun _ _ _ _ _ _ us hl => match us, hl with | [_], _ => rfl
  have FMT := fun_mk (st := sMT) lMT cMT kMT
  have bMT := FMT.binds (ps := ["points", "place"]) fun _ _ _ _ _ _ us hl => match us, hl with | [_, _], _ => rfl
  have FPB := fun_mk (st := sPB) lPB cPB kPB
  have bPB := FPB.binds (ps := ["rest", "reading"]) fun _ _ _ _ _ _ us hl => match us, hl with | [_, _], _ => rfl
  have FCN := fun_mk (st := sCo) lCN cCN kCN
  have bCN := FCN.binds (ps := ["load"]) fun _ _ _ _ _ _ us hl => match us, hl with | [_], _ => rfl
  have FCP := fun_mk (st := sCP) lCP cCP kCP
  have bCP := FCP.binds (ps := ["load"]) fun _ _ _ _ _ _ us hl => match us, hl with | [_], _ => rfl
  have FCC := fun_mk (st := sCC) lCC cCC kCC
  have bCC := FCC.binds (ps := ["load"]) fun _ _ _ _ _ _ us hl => match us, hl with | [_], _ => rfl
  have FHC := fun_mk (st := sHC) lHC cHC kHC
  have bHC := FHC.binds (ps := ["pieces", "order", "closed"]) fun _ _ _ _ _ _ us hl => match us, hl with | [_, _, _], _ => rfl
  have FFE := fun_mk (st := sFeed) lFE cFE kFE
  have bFE := FFE.binds (ps := ["script", "k"]) fun _ _ _ _ _ _ us hl => match us, hl with | [_, _], _ => rfl
  have FTA := fun_mk (st := sTake) lTA cTA kTA
  have bTA := FTA.binds (ps := ["feed", "many"]) fun _ _ _ _ _ _ us hl => match us, hl with | [_, _], _ => rfl
  have FPI := fun_mk (st := sPick) lPI cPI kPI
  have bPI := FPI.binds (ps := ["feed", "some"]) fun _ _ _ _ _ _ us hl => match us, hl with | [_, _], _ => rfl
  have FLO := fun_mk (st := sLoad) lLO cLO kLO
  have bLO := FLO.binds (ps := ["feed", "most"]) fun _ _ _ _ _ _ us hl => match us, hl with | [_, _], _ => rfl
  have FLP := fun_mk (st := sLP) lLP cLP kLP
  have bLP := FLP.binds (ps := ["load"]) fun _ _ _ _ _ _ us hl => match us, hl with | [_], _ => rfl
  have FLR := fun_mk (st := sLR) lLR cLR kLR
  have bLR := FLR.binds (ps := ["one", "other"]) fun _ _ _ _ _ _ us hl => match us, hl with | [_, _], _ => rfl
  have FLH := fun_mk (st := sLH) lLH cLH kLH
  have bLH := FLH.binds (ps := ["outer", "inner"]) fun _ _ _ _ _ _ us hl => match us, hl with | [_, _], _ => rfl
  have FPL := fun_mk (st := sPl) lPL cPL kPL
  have bPL := FPL.binds (ps := ["points"]) fun _ _ _ _ _ _ us hl => match us, hl with | [_], _ => rfl
  have FCT := fun_mk (st := sCt) lCT cCT kCT
  have bCT := FCT.binds (ps := ["feed", "load"]) fun _ _ _ _ _ _ us hl => match us, hl with | [_, _], _ => rfl
  have FHV := fun_mk (st := sHv) lHV cHV kHV
  have bHV := FHV.binds (ps := ["cycles", "rest"]) fun _ _ _ _ _ _ us hl => match us, hl with | [_, _], _ => rfl
  have FIV := fun_mk (st := sIv) lIV cIV kIV
  have bIV := FIV.binds (ps := ["feed", "most"]) fun _ _ _ _ _ _ us hl => match us, hl with | [_, _], _ => rfl
  have FEN := fun_mk (st := sEn) lEN cEN kEN
  have bEN := FEN.binds (ps := ["feed", "most"]) fun _ _ _ _ _ _ us hl => match us, hl with | [_, _], _ => rfl
  have FAm := fun_mk (st := sAm) lAm cAm kAm
  have bAm := FAm.binds (ps := ["entries", "low", "high"]) fun _ _ _ _ _ _ us hl => match us, hl with | [_, _, _], _ => rfl
  have FWe := fun_mk (st := sWe) lWe cWe kWe
  have bWe := FWe.binds (ps := ["entries", "ranges"]) fun _ _ _ _ _ _ us hl => match us, hl with | [_, _], _ => rfl
  have FCl := fun_mk (st := sCl) lCl cCl kCl
  have bCl := FCl.binds (ps := ["load"]) fun _ _ _ _ _ _ us hl => match us, hl with | [_], _ => rfl
  have FDu := fun_mk (st := sDu) lDu cDu kDu
  have bDu := FDu.binds (ps := ["feed", "load", "entries", "is_round"]) fun _ _ _ _ _ _ us hl => match us, hl with | [_, _, _, _], _ => rfl
  have FWO : FunD K "wear_of" "wear_of" (defArgs sWO) (defBody sWO) (defScope sWO) [] [("closed", (V.bl false))] fWO (PySem.W.fnOf "wear_of" "wear_of" (defArgs sWO) (defBody sWO) (defScope sWO) .none (.ref kDWO) dcWO pmWO anWO cdWO ctWO) := ⟨⟨_, _, _, _, _, _, _, _, _, _, rfl, lWO, cWO, .inl ⟨rfl, rfl⟩, .inr ⟨kDWO, rfl, fun q hq => by rw [List.mem_singleton.mp hq]; exact ⟨_, wWO, rfl⟩⟩⟩, kWO⟩
  have bWO : Binds K (PySem.W.fnOf "wear_of" "wear_of" (defArgs sWO) (defBody sWO) (defScope sWO) .none (.ref kDWO) dcWO pmWO anWO cdWO ctWO) ["pieces", "order", "table", "closed"] [(Value.bool false)] := by
    obtain ⟨ds, hv, hb⟩ := FWO.binds0 (ps := ["pieces", "order", "table", "closed"]) 3 (by simp) rfl (fun D doc pm an cdv ct us ks h1 h2 => match us, ks, h1, h2 with | [_, _, _], [_], _, _ => ⟨_, _, _, _, _, _, rfl, rfl, rfl⟩)
    cases hv with
    | cons r t =>
      cases t
      cases r
      exact hb
  have kbWO := GB.kbn1 (k := "closed") (ps := ["pieces", "order", "table", "closed"]) FWO 3 (fun kV doc pm an cdv ct us w h => match us, h with | [_, _, _], _ => rfl)
  have FIN := fun_mk (st := sInit) lIN cIN kIN
  have bIN := FIN.binds (ps := ["self", "cycles", "rest"]) fun _ _ _ _ _ _ us hl => match us, hl with | [_, _, _], _ => rfl
  have FOF := fun_mk (st := sOf) lOF cOF kOF
  have bOF := FOF.binds (ps := ["cls", "load"]) fun _ _ _ _ _ _ us hl => match us, hl with | [_, _], _ => rfl
  have FPC := fun_mk (st := sPC) lPC cPC kPC
  have bPC := FPC.binds (ps := ["self"]) fun _ _ _ _ _ _ us hl => match us, hl with | [_], _ => rfl
  have FPH := fun_mk (st := sPH) lPH cPH kPH
  have bPH := FPH.binds (ps := ["self"]) fun _ _ _ _ _ _ us hl => match us, hl with | [_], _ => rfl
  have FUI := fun_mk (st := sTI) lUI cUI kUI
  have bUI := FUI.binds (ps := ["self", "entries"]) fun _ _ _ _ _ _ us hl => match us, hl with | [_, _], _ => rfl
  have FUA := fun_mk (st := sTA) lUA cUA kUA
  have bUA := FUA.binds (ps := ["self", "low", "high"]) fun _ _ _ _ _ _ us hl => match us, hl with | [_, _, _], _ => rfl
  have FUW := fun_mk (st := sTW) lUW cUW kUW
  have bUW := FUW.binds (ps := ["self", "ranges"]) fun _ _ _ _ _ _ us hl => match us, hl with | [_, _], _ => rfl
  have FUS := fun_mk (st := H8T.sTS) lUS cUS kUS
  have bUS := FUS.binds (ps := ["self"]) fun _ _ _ _ _ _ us hl => match us, hl with | [_], _ => rfl
  have FLAW := fun_mk (st := H8T.sLaw) lLAW cLAW kLAW
  have T : H8T.Txt K mg fRG fTP fIL fBT fSW fMT fPB fCN fCP fCC fHC fFE fTA fPI fLO fLP fLR fLH fPL fCT fHV fIV fEN fAm fWe fCl fDu fWO C fIN pO fOF pC fPC p3 fPH CT_ fUI fUA fUW fUS _ _ _ _ _ _ _ _ _ _ _ _ _ _ _ _ _ _ _ _ _ _ _ _ _ _ _ _ _ _ _ _ _ _ _ _ := ⟨FRG, PySem.W.mg_of X G aRG, kRG, bRG, FTP, PySem.W.mg_of X G aTP, kTP, bTP, FIL, PySem.W.mg_of X G aIL, kIL, bIL, FBT, PySem.W.mg_of X G aBT, kBT, bBT, FSW, PySem.W.mg_of X G aSW, kSW, bSW, FMT, PySem.W.mg_of X G aMT, kMT, bMT, FPB, PySem.W.mg_of X G aPB, kPB, bPB, FCN, PySem.W.mg_of X G aCN, kCN, bCN, FCP, PySem.W.mg_of X G aCP, kCP, bCP, FCC, PySem.W.mg_of X G aCC, kCC, bCC, FHC, PySem.W.mg_of X G aHC, kHC, bHC, FFE, PySem.W.mg_of X G aFE, kFE, bFE, FTA, PySem.W.mg_of X G aTA, kTA, bTA, FPI, PySem.W.mg_of X G aPI, kPI, bPI, FLO, PySem.W.mg_of X G aLO, kLO, bLO, FLP, PySem.W.mg_of X G aLP, kLP, bLP, FLR, PySem.W.mg_of X G aLR, kLR, bLR, FLH, PySem.W.mg_of X G aLH, kLH, bLH, FPL, PySem.W.mg_of X G aPL, kPL, bPL, FCT, PySem.W.mg_of X G aCT, kCT, bCT, FHV, PySem.W.mg_of X G aHV, kHV, bHV, FIV, PySem.W.mg_of X G aIV, kIV, bIV, FEN, PySem.W.mg_of X G aEN, kEN, bEN, FAm, PySem.W.mg_of X G aAm, kAm, bAm, FWe, PySem.W.mg_of X G aWe, kWe, bWe, FCl, PySem.W.mg_of X G aCl, kCl, bCl, FDu, PySem.W.mg_of X G aDu, kDu, bDu, FWO, PySem.W.mg_of X G aWO, kWO, bWO, kbWO, PySem.W.mg_of X G aC, ⟨⟨pg, hd, po, sa⟩, na0, na1⟩, ⟨mk, aI, iI, kc⟩, FIN, bIN, ⟨rdOF, gaOF⟩, ⟨aOF, ⟨_, rcOF⟩, fiOF⟩, FOF, bOF, ⟨aPPC, gPPC, tPPC, ⟨_, rcPPC⟩⟩, FPC, bPC, ⟨aPPH, gPPH, tPPH, ⟨_, rcPPH⟩⟩, FPH, bPH, PySem.W.mg_of X G aCTb, ⟨⟨pgTb, hdTb, poTb, saTb⟩, na0Tb⟩, ⟨mkTb, aITb, iITb, kcTb⟩, FUI, bUI, ⟨aUA, iUA, kUA⟩, FUA, bUA, ⟨aUW, iUW, kUW⟩, FUW, bUW, aUS, iUS, FUS, bUS, PySem.W.mg_none_of X G z1, PySem.W.mg_none_of X G z2, PySem.W.mg_none_of X G z3, PySem.W.mg_none_of X G z4, PySem.W.mg_none_of X G z5, PySem.W.mg_none_of X G z6, PySem.W.mg_none_of X G z7, PySem.W.mg_none_of X G z8, PySem.W.mg_none_of X G z9, PySem.W.mg_none_of X G z10, PySem.W.mg_none_of X G z11, PySem.W.mg_none_of X G z12, PySem.W.mg_none_of X G z13⟩
  exact ⟨PySem.W.fnOf "law" "law" (defArgs H8T.sLaw) (defBody H8T.sLaw) (defScope H8T.sLaw) .none kVLAW dcLAW pmLAW anLAW cdLAW ctLAW, fun s v => .of_eq rfl, fun base _ _ => H8L.ok_law FLAW T⟩
end H8E
open PySem PySem.W PyProof.Rows
set_option maxRecDepth 100000 in
set_option maxHeartbeats 0 in
theorem PySem.Challenge.cw_wearswings_k80_wear_of_orders_holds : PySem.Challenge.rw_wearswings_k80_wear_of_orders.Holds := by
  w_on; o_law; k_head; (case hw => w_witness2)
  k_fill
  refine KW.walk_kept (l := PySem.Challenge.rw_wearswings_k80_wear_of_orders) (n := 63) (k := 9) (x := "script") (sp := H8L.spLaw) rfl (by decide) rfl ⟨rfl, by decide, by decide⟩ (fun w h Y => PySem.W.kIn_of Y) ?F (fun K H a ns hl _ hS => ⟨a, ns, rfl, hS, hl, fun _ => rfl⟩)
  case F =>
    intro w mg fa h KX G hmg
    refine' H8E.all_mk KX G hmg ?aRG ?lRG ?cRG ?kRG ?aTP ?lTP ?cTP ?kTP ?aIL ?lIL ?cIL ?kIL ?aBT ?lBT ?cBT ?kBT ?aSW ?lSW ?cSW ?kSW ?aMT ?lMT ?cMT ?kMT ?aPB ?lPB ?cPB ?kPB ?aCN ?lCN ?cCN ?kCN ?aCP ?lCP ?cCP ?kCP ?aCC ?lCC ?cCC ?kCC ?aHC ?lHC ?cHC ?kHC ?aFE ?lFE ?cFE ?kFE ?aTA ?lTA ?cTA ?kTA ?aPI ?lPI ?cPI ?kPI ?aLO ?lLO ?cLO ?kLO ?aLP ?lLP ?cLP ?kLP ?aLR ?lLR ?cLR ?kLR ?aLH ?lLH ?cLH ?kLH ?aPL ?lPL ?cPL ?kPL ?aCT ?lCT ?cCT ?kCT ?aHV ?lHV ?cHV ?kHV ?aIV ?lIV ?cIV ?kIV ?aEN ?lEN ?cEN ?kEN ?aAm ?lAm ?cAm ?kAm ?aWe ?lWe ?cWe ?kWe ?aCl ?lCl ?cCl ?kCl ?aDu ?lDu ?cDu ?kDu ?aWO ?lWO ?cWO ?kWO ?wWO ?aC ?pg ?hd ?po ?sa ?na0 ?na1 ?mk ?kc ?aI ?iI ?lIN ?cIN ?kIN ?rdOF ?gaOF ?aOF ?rcOF ?fiOF ?lOF ?cOF ?kOF ?aPPC ?gPPC ?tPPC ?rcPPC ?lPC ?cPC ?kPC ?aPPH ?gPPH ?tPPH ?rcPPH ?lPH ?cPH ?kPH ?aCTb ?pgTb ?hdTb ?poTb ?saTb ?na0Tb ?mkTb ?kcTb ?aITb ?iITb ?lUI ?cUI ?kUI ?aUA ?iUA ?lUA ?cUA ?kUA ?aUW ?iUW ?lUW ?cUW ?kUW ?aUS ?iUS ?lUS ?cUS ?kUS ?z1 ?z2 ?z3 ?z4 ?z5 ?z6 ?z7 ?z8 ?z9 ?z10 ?z11 ?z12 ?z13 ?aLAW ?lLAW ?cLAW ?kLAW
    (case aRG => k_is)
    (case lRG => k_is)
    (case cRG => k_is)
    (case kRG => k_is)
    (case aTP => k_is)
    (case lTP => k_is)
    (case cTP => k_is)
    (case kTP => k_is)
    (case aIL => k_is)
    (case lIL => k_is)
    (case cIL => k_is)
    (case kIL => k_is)
    (case aBT => k_is)
    (case lBT => k_is)
    (case cBT => k_is)
    (case kBT => k_is)
    (case aSW => k_is)
    (case lSW => k_is)
    (case cSW => k_is)
    (case kSW => k_is)
    (case aMT => k_is)
    (case lMT => k_is)
    (case cMT => k_is)
    (case kMT => k_is)
    (case aPB => k_is)
    (case lPB => k_is)
    (case cPB => k_is)
    (case kPB => k_is)
    (case aCN => k_is)
    (case lCN => k_is)
    (case cCN => k_is)
    (case kCN => k_is)
    (case aCP => k_is)
    (case lCP => k_is)
    (case cCP => k_is)
    (case kCP => k_is)
    (case aCC => k_is)
    (case lCC => k_is)
    (case cCC => k_is)
    (case kCC => k_is)
    (case aHC => k_is)
    (case lHC => k_is)
    (case cHC => k_is)
    (case kHC => k_is)
    (case aFE => k_is)
    (case lFE => k_is)
    (case cFE => k_is)
    (case kFE => k_is)
    (case aTA => k_is)
    (case lTA => k_is)
    (case cTA => k_is)
    (case kTA => k_is)
    (case aPI => k_is)
    (case lPI => k_is)
    (case cPI => k_is)
    (case kPI => k_is)
    (case aLO => k_is)
    (case lLO => k_is)
    (case cLO => k_is)
    (case kLO => k_is)
    (case aLP => k_is)
    (case lLP => k_is)
    (case cLP => k_is)
    (case kLP => k_is)
    (case aLR => k_is)
    (case lLR => k_is)
    (case cLR => k_is)
    (case kLR => k_is)
    (case aLH => k_is)
    (case lLH => k_is)
    (case cLH => k_is)
    (case kLH => k_is)
    (case aPL => k_is)
    (case lPL => k_is)
    (case cPL => k_is)
    (case kPL => k_is)
    (case aCT => k_is)
    (case lCT => k_is)
    (case cCT => k_is)
    (case kCT => k_is)
    (case aHV => k_is)
    (case lHV => k_is)
    (case cHV => k_is)
    (case kHV => k_is)
    (case aIV => k_is)
    (case lIV => k_is)
    (case cIV => k_is)
    (case kIV => k_is)
    (case aEN => k_is)
    (case lEN => k_is)
    (case cEN => k_is)
    (case kEN => k_is)
    (case aAm => k_is)
    (case lAm => k_is)
    (case cAm => k_is)
    (case kAm => k_is)
    (case aWe => k_is)
    (case lWe => k_is)
    (case cWe => k_is)
    (case kWe => k_is)
    (case aCl => k_is)
    (case lCl => k_is)
    (case cCl => k_is)
    (case kCl => k_is)
    (case aDu => k_is)
    (case lDu => k_is)
    (case cDu => k_is)
    (case kDu => k_is)
    (case aWO => k_is)
    (case lWO => k_is)
    (case cWO => k_is)
    (case kWO => k_is)
    (case wWO => k_is)
    (case aC => k_is)
    (case pg => k_is)
    (case hd => k_is)
    (case po => k_is)
    (case sa => k_is)
    (case na0 => k_is)
    (case na1 => k_is)
    (case mk => k_is)
    (case kc => k_is)
    (case aI => k_is)
    (case iI => k_is)
    (case lIN => k_is)
    (case cIN => k_is)
    (case kIN => k_is)
    (case rdOF => k_is)
    (case gaOF => k_is)
    (case aOF => k_is)
    (case rcOF => k_is)
    (case fiOF => k_is)
    (case lOF => k_is)
    (case cOF => k_is)
    (case kOF => k_is)
    (case aPPC => k_is)
    (case gPPC => k_is)
    (case tPPC => k_is)
    (case rcPPC => k_is)
    (case lPC => k_is)
    (case cPC => k_is)
    (case kPC => k_is)
    (case aPPH => k_is)
    (case gPPH => k_is)
    (case tPPH => k_is)
    (case rcPPH => k_is)
    (case lPH => k_is)
    (case cPH => k_is)
    (case kPH => k_is)
    (case aCTb => k_is)
    (case pgTb => k_is)
    (case hdTb => k_is)
    (case poTb => k_is)
    (case saTb => k_is)
    (case na0Tb => k_is)
    (case mkTb => k_is)
    (case kcTb => k_is)
    (case aITb => k_is)
    (case iITb => k_is)
    (case lUI => k_is)
    (case cUI => k_is)
    (case kUI => k_is)
    (case aUA => k_is)
    (case iUA => k_is)
    (case lUA => k_is)
    (case cUA => k_is)
    (case kUA => k_is)
    (case aUW => k_is)
    (case iUW => k_is)
    (case lUW => k_is)
    (case cUW => k_is)
    (case kUW => k_is)
    (case aUS => k_is)
    (case iUS => k_is)
    (case lUS => k_is)
    (case cUS => k_is)
    (case kUS => k_is)
    (case z1 => k_is)
    (case z2 => k_is)
    (case z3 => k_is)
    (case z4 => k_is)
    (case z5 => k_is)
    (case z6 => k_is)
    (case z7 => k_is)
    (case z8 => k_is)
    (case z9 => k_is)
    (case z10 => k_is)
    (case z11 => k_is)
    (case z12 => k_is)
    (case z13 => k_is)
    (case aLAW => k_is)
    (case lLAW => k_is)
    (case cLAW => k_is)
    (case kLAW => k_is)

