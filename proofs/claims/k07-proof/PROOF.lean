import PyProof.Rows.All
import Wide.All
import OpenK.AllK
import Wide.FinOn
import HandS.ForMost
import HandS.Flow
import HandS.OwnEq
import HandS.More
import HandS.DictComp
import HandS.List
import KE.KEqDict
import KE.KDictKeyed
import KE.KRevSl
import PyProof.InstNe
import HandS.IsInst
import HandS.SortRule
import HandS.Property
import HandS.ClsMeth
import HandS.Star
import HandS.Codes
import HandS.Strs
import HandS.SetFor
import HandS.RaiseMore
import HandS.Wide
import HandS.Style
import HandS.Walk
import HandS.Zip
import HandS.TupAny
import HandS.Conv
import HandS.FStr
import KE.KCallOwn
import HandS.Text
import HandS.Comp
import HandS.StrMore
import HandS.ExcInit
import HandS.Nested
import KE.KExcSuper
import HandS.ForExc
import HandS.ExcIs
import HandS.ExcField
import HandS.Deep
import HandS.NoneIn
import HandS.Steps
import HandS.ExcOwn
import HandS.Defaults
import HandS.Iter
import HandS.Call
import PyProof.StrOps2
import PyProof.StrLawsRepr
import KE.RegKSuper
import PySem.Challenge.RW_wearswings_k07_texts_of_counts
set_option Elab.async false
set_option linter.all false
set_option maxRecDepth 100000
set_option maxHeartbeats 16000000
/-! del xs[-3:-1] of a list of at least three -/
namespace DS
open PySem PySem.Spec PyProof.Rows L2
def sel (start stop step : Int) (i : Nat) : Bool :=
  if step > 0 then start ≤ i && i < stop && (i - start) % step == 0 else stop < i && i ≤ start && (start - i) % (-step) == 0
theorem sel_iff (a c : Int) (i : Nat) : sel a c 1 i = decide (a ≤ i ∧ (i : Int) < c) := by
  unfold sel
  rw [if_pos (by decide)]
  have e : ((((i : Int) - a) % 1) == 0) = true := by rw [Int.emod_one]; rfl
  rw [e, Bool.and_true]
  by_cases h1 : a ≤ (i : Int) <;> by_cases h2 : (i : Int) < c <;> simp [h1, h2]
def cutOut (a c : Int) (xs : Array Value) : Array Value := (xs.toList.zipIdx.filterMap fun (x, k) => if sel a c 1 k then none else some x).toArray
theorem keep_all {a c : Int} : ∀ (l : List Value) (s : Nat), ((s + l.length : Nat) : Int) ≤ a → (l.zipIdx s).filterMap (fun (x, k) => if sel a c 1 k then none else some x) = l
  | [], _, _ => rfl
  | x :: l, s, h => by
    rw [List.zipIdx_cons, List.filterMap_cons]
    have e : sel a c 1 s = false := by rw [sel_iff]; exact decide_eq_false (by simp only [List.length_cons] at h; omega)
    have ih := keep_all (a := a) (c := c) l (s + 1) (by simp only [List.length_cons] at h; omega)
    simp only [e, Bool.false_eq_true, if_false]
    rw [ih]
theorem cut_three (pre : List Value) (x y z : Value) : cutOut ((pre.length : Nat) : Int) (((pre.length + 2 : Nat)) : Int) (pre ++ [x, y, z]).toArray = (pre ++ [z]).toArray := by
  unfold cutOut
  congr 1
  show ((pre ++ [x, y, z]).zipIdx.filterMap _) = _
  rw [List.zipIdx_append, List.filterMap_append, keep_all pre 0 (by omega)]
  congr 1
  have e1 : sel ((pre.length : Nat) : Int) (((pre.length + 2 : Nat)) : Int) 1 pre.length = true := by rw [sel_iff]; exact decide_eq_true (by omega)
  have e2 : sel ((pre.length : Nat) : Int) (((pre.length + 2 : Nat)) : Int) 1 (pre.length + 1) = true := by rw [sel_iff]; exact decide_eq_true (by omega)
  have e3 : sel ((pre.length : Nat) : Int) (((pre.length + 2 : Nat)) : Int) 1 (pre.length + 1 + 1) = false := by rw [sel_iff]; exact decide_eq_false (by omega)
  simp only [Nat.zero_add, List.zipIdx_cons, List.zipIdx_nil, List.filterMap_cons, List.filterMap_nil, e1, e2, e3, if_true, Bool.false_eq_true, if_false]
theorem bounds31 (n : Nat) : sliceBounds (some (-3)) (some (-1)) none (n + 3) = (((n : Nat) : Int), ((n + 2 : Nat) : Int), 1) := by
  simp only [sliceBounds, Option.getD_none]
  have h1 : (-3 : Int) < 0 := by decide
  have h2 : (-1 : Int) < 0 := by decide
  simp only [h1, h2, if_true, show (1 : Int) > 0 by decide]
  congr 1
  · omega
  · congr 1; omega
section
variable {prog : Program} {w : World} {A : Around} {E : Value → Shared → Prop} {s : Shared}
theorem del31 {l sl : Addr} {its : Array Value} {n : Nat} {vl vu : Value} {Q : Unit → Shared → Prop} (e : s.heap.get? l = some { cls := .type "list", data := .seq its n }) (hs : s.heap.IsSliceOf sl vl vu .none)
    (pl : IsPart vl (some (-3))) (pu : IsPart vu (some (-1))) (m : Nat) (hm : its.size = m + 3) (hz : its.size ≤ sizeLine)
    (h : Q () { s with heap := s.heap.update l (Obj.mapSeq (cutOut (m : Int) ((m + 2 : Nat) : Int))) }) : wpAny (model prog w) A (delItem (.ref l) (.ref sl)) Q E s := by
  have hl : s.heap.IsList l its := PySem.IsL.isList e
  obtain ⟨os, hos, hcs, hds⟩ := id hs
  have hT : s.TypeIs (.ref sl) "slice" := ⟨os, hos, hcs⟩
  have hst : ¬ ((rawPart none == rawInt 0) = true) := Bool.false_ne_true
  refine wpAny_delItem_slot hl.typeIs (by decide) F.slot_list_delitem (wpAny_call_entry F.slot_list_delitem hl.typeIs F.entry_list_delitem ?_ (F.args_list_delitem_2 _ _))
  unfold Builtin.«list.__delitem__»
  refine wpAny_bind (wpAny_of_eq (a := (Value.ref l, [Value.ref sl])) (by first | rfl | kernel_rfl) ?_)
  show wpAny _ _ (Builtin.List.listSubscript? (.ref sl) >>= _) _ _ s
  unfold Builtin.List.listSubscript?
  refine wpAny_bind (wpAny_bind (wpAny_specialOf hT slice_no_index ?_))
  simp only [Option.isNone_none, if_true]
  refine wpAny_pure ?_
  show wpAny _ _ (typeOf (.ref sl) >>= _) _ _ s
  refine wpAny_bind (wpAny_typeOf hT ?_)
  first
    | rw [if_neg (by decide)]
    | refine PySem.W.KFB.if_not (by decide) ?_
  rw [listSliceParts_eq]
  refine wpAny_bind (wpAny_bind (wpAny_field hos hds rfl (wpAny_bind (wpAny_listPart .none ?_))))
  rw [if_neg hst]
  refine wpAny_bind (wpAny_field hos hds rfl (wpAny_bind (wpAny_listPart pl ?_)))
  refine wpAny_bind (wpAny_field hos hds rfl (wpAny_bind (wpAny_listPart pu (wpAny_pure ?_))))
  unfold Builtin.List.listItems
  refine wpAny_bind (wpAny_bind (wpAny_seqItems e rfl (wpAny_pure ?_)))
  rw [hm]
  refine wpAny_bind (wpAny_of_eq ((sliceIndices_raw (some (-3)) (some (-1)) none (m + 3) (by simp)).trans (congrArg (pure : Int × Int × Int → Sem (Int × Int × Int)) (bounds31 m))) ?_)
  refine wpAny_bind (wpAny_rule ?_)
  have hz2 : (cutOut (m : Int) ((m + 2 : Nat) : Int) its).size ≤ sizeLine + 1 := by
    unfold cutOut
    rw [List.size_toArray]
    refine Nat.le_trans (List.length_filterMap_le _ _) ?_
    rw [List.length_zipIdx, Array.length_toList]
    omega
  show wpAny _ _ (updateSeq l (cutOut (m : Int) ((m + 2 : Nat) : Int)) >>= _) _ _ s
  refine wpAny_bind (wpAny_updateSeq (hz := hz) (_hz' := hz2) e rfl ?_)
  refine wpAny_bind (wpAny_letGo ?_)
  first
    | exact wpAny_pure ⟨.none, rfl, h⟩
    | exact wpAny_pure h
end
theorem split3 : ∀ {pre : List V} {x1 y1 z1 : V} {its : List Value}, Vals (pre ++ [x1, y1, z1]) its → ∃ ip i1 i2 i3, its = ip ++ [i1, i2, i3] ∧ Vals pre ip ∧ RelV x1 i1 ∧ RelV y1 i2 ∧ RelV z1 i3
  | [], _, _, _, _, .cons r1 (.cons r2 (.cons r3 .nil)) => ⟨[], _, _, _, rfl, .nil, r1, r2, r3⟩
  | _ :: pre, _, _, _, _, .cons r0 t => by
    obtain ⟨ip, i1, i2, i3, e, rp, h⟩ := split3 (pre := pre) t
    exact ⟨_ :: ip, i1, i2, i3, by rw [e]; rfl, .cons r0 rp, h⟩
section
variable {X : Cx}
/-- del xs[-3:-1] of a list of at least three -/
def tDel31 (to : TE) (tl th : TO) : TS := fun D σ H => to σ H fun x H1 => tl σ H1 fun l H2 => th σ H2 fun u H3 => l = some (-3) ∧ u = some (-1) ∧ ∃ (a : Addr) (pre : List V) (x1 y1 z1 : V), x = .ref a ∧ H3 a = some (.lst (pre ++ [x1, y1, z1])) ∧
  D.nx σ (upd H3 a (.lst (pre ++ [z1])))
theorem ps_del31 {o : Expr} {lo hi : Option Expr} {to : TE} {tl th : TO} {tpos p2 pos : Pos} (ho : PE X o to) (hl : PO X lo tl) (hu : PO X hi th) : PS X (.Delete [.Subscript o (.Slice lo hi none p2) tpos] pos) (tDel31 to tl th) := by
  refine ⟨fun pins s σ H D I h => ?_⟩
  refine wpAny_Delete (wpAny_deleteEach_cons (wpAny_delete_Subscript (thn (ho.run pins s σ H _ I h) fun u s1 ⟨x, H1, I1, rx, q1⟩ => ?_)))
  refine wpAny_Slice (thn (hl.run pins s1 σ H1 _ I1 q1) fun vl s2 ⟨l, H2, I2, pl, q2⟩ => thn (hu.run pins s2 σ H2 _ I2 q2) fun vu s3 ⟨w, H3, I3, pu, q3⟩ => ?_)
  rw [evalPart_none]
  refine wpAny_pure ?_
  obtain ⟨e1, e2, a, pre, x1, y1, z1, rfl, hH, q⟩ := q3
  subst e1 e2
  cases (show u = Value.ref a from rx)
  have I4 : Inv X pins σ H3 { s3 with heap := s3.heap.push { cls := .type "slice", data := .fields #[vl, vu, .none] } } := I3.kept (t' := s3.toks) fun b o e => Heap.get?_push_of_some _ e
  obtain ⟨z, its, n, r, hlen, e⟩ := I4.lstM hH
  have hn : its.length = pre.length + 3 := by rw [← hlen]; simp
  obtain ⟨ip, i1, i2, i3, ei, rp, r1, r2, r3⟩ : ∃ ip i1 i2 i3, its = ip ++ [i1, i2, i3] ∧ Vals pre ip ∧ RelV x1 i1 ∧ RelV y1 i2 ∧ RelV z1 i3 := split3 r
  subst ei
  have hp : ip.length = pre.length := rp.length.symm
  refine del31 e (Heap.IsSliceOf.new ..) pl pu pre.length (by rw [List.size_toArray]; exact hn) (by rw [List.size_toArray, ← hlen]; exact z) (wpAny_deleteEach_nil ⟨σ, _, I4.lset (ys := pre ++ [z1]) (its' := ip ++ [i3]) (t' := s3.toks) hH e ?_ (rp.append (.cons r3 .nil)) ?_, q⟩)
  · rw [← hp]
    exact cut_three ip i1 i2 i3
  · have := z
    simp only [List.length_append, List.length_cons, List.length_nil] at this ⊢
    omega
end
end DS

/-! set(xs) of a list of ints, with the order's ledger kept (for sorted behind it) -/
namespace KS
open PySem PySem.Spec PyProof.Rows L2
abbrev leer (w : World) : Obj := { cls := .type "set", dict := none, data := .set #[] 0 (.fresh 0 0 (!w.params.followText "set-order")) }
section
variable {P : Program} {w : World} {A : Around} {E : Value → Shared → Prop} {s : Shared}
/-- what stands behind set's own __init__ -/
abbrev Made (w : World) (s : Shared) (ns : List Int) (Q : Shared → Prop) : Prop :=
  ∀ (g : Heap) (tk c : Nat), SetR w g s.heap.objs.size (fun j => decide (j ∈ ns)) c → c ≤ ns.length → (∀ b o, s.heap.get? b = some o → g.get? b = some o) → Q { s with heap := g, toks := tk }
set_option maxHeartbeats 6400000 in
theorem set_lst {l : Addr} {its : Array Value} (ns : List Int) {Q : Value → Shared → Prop} (hh : A.handled = none) (hl : s.heap.IsList l its) (hit : IntsAre its.toList ns) (hb : ns.length + 1 < scanBound)
    (h : Made w s ns (Q (.ref s.heap.objs.size))) : wpAny (model P w) A (call (.type "set") [.ref l]) Q E s := by
  have hn : its.size = ns.length := by
    rw [← Array.length_toList]; exact IntsAre.length hit
  obtain ⟨c0, t0, hm⟩ := F.called_set.mro
  have k1 := F.called_set.made; have k2 := F.called_set.sub; have k3 := F.called_set.notType; have k4 := F.called_set.canCreate; have k5 := F.typeCall_set_1 (.ref l)
  refine wpAny_call (codeAny_of_tree (show wpAny _ _ (callAny (.type "set") _) _ _ _ from ?_))
  have uu : A.under (.builtin "type.__call__" ⟨[.type "set", .ref l], []⟩) = A.in1 := Around.under_plain (weight_type_call_type "set" [.ref l] []) rfl
  refine wpAny_pure ⟨Code.quiet_builtin _ (by decide +kernel), codeAny_builtin F.entry_type_call ?_⟩
  rw [show A.under (.builtin "type.__call__" { ({ pos := [Value.ref l] } : Args) with pos := .type "set" :: [Value.ref l] }) = A.in1 from uu]
  repeat (any_goals (first | assumption | wp_step))
  have hs0 : (s.heap.push (leer w)).get? s.heap.objs.size = some (leer w) := Heap.get?_push_size _ rfl
  refine codeAny_mono (code_set_led1 (.ref l) (E := E) (Q₁ := fun x s1 => x = .ref s.heap.objs.size ∧ s1 = { s with heap := s.heap.push (leer w) }) ⟨rfl, rfl⟩) fun r1 s1 e1 => ?_
  match r1, e1 with
  | .error _, e1 => exact e1
  | .ok (.next), e1 => exact e1.elim
  | .ok (.brk), e1 => exact e1.elim
  | .ok (.cont), e1 => exact e1.elim
  | .ok (.ret x), e1 =>
    obtain ⟨rfl, rfl⟩ := e1
    have hT : Shared.TypeIs { s with heap := s.heap.push (leer w) } (.ref s.heap.objs.size) "set" := ⟨_, hs0, rfl⟩
    have j1 := F.called_set.init.lookup; have j2 := F.called_set.init.bind (.ref s.heap.objs.size)
    repeat (any_goals (first | assumption | wp_step))
    refine codeAny_mono (codeAny_call_builtin (R := wants (fun v s2 => v = .none ∧ ∃ g tk c, s2 = { s with heap := g, toks := tk } ∧ SetR w g s.heap.objs.size (fun j => decide (j ∈ ns)) c ∧ c ≤ ns.length ∧ ∀ b o, s.heap.get? b = some o → g.get? b = some o) E)
      F.called_set.init.plain F.entry_set_init (check_set_init_1 hT ?_)) fun r2 s2 e2 => ?_
    · obtain ⟨ol, a1, a2, nl, a3⟩ := hl
      obtain ⟨xc, xd, xt, xs⟩ := ol
      simp only at a2 a3
      subst a2 a3
      have a4 : (s.heap.push (leer w)).get? l = some { cls := .type "list", dict := xd, data := .seq its nl, slots := xs } := Heap.get?_push_of_some _ a1
      have b1 := F.sub_list_set; have b2 := F.sub_list_frozenset; have b3 : (Value.type "list" == Value.type "dict") = false := by decide
      have a5 : (s.heap.push (leer w)).IsList l its := ⟨_, a4, rfl, nl, rfl⟩
      unfold Builtin.«set.__init__» noKeywords Builtin.Frozenset.updateFrom
      generalize hPI : pyIter = PI
      wp_walk
      subst hPI
      refine wpAny_pyIter_list a5 (wpAny_bind (wpAny_runValue ?_))
      have lt := Heap.lt_size a1
      have sz : (s.heap.push (leer w)).objs.size = s.heap.objs.size + 1 := Heap.size_push ..
      have d1 : l ≠ (s.heap.push (leer w)).objs.size := by rw [sz]; exact Nat.ne_of_lt (Nat.lt_succ_of_lt lt)
      have d2 : s.heap.objs.size ∉ [(s.heap.push (leer w)).objs.size, l] := by
        rw [sz]; intro z; rcases List.mem_cons.mp z with z | z
        · exact absurd z (Nat.ne_of_lt (Nat.lt_succ_self _))
        · exact absurd (List.mem_singleton.mp z) (Nat.ne_of_gt lt)
      have vl : ∀ i v, its[i]? = some v → ∃ (k : Int) (t : Tok), ns[i]? = some k ∧ v = Value.int k t := fun i v e => by
        have hi : i < ns.length := by rw [← hn]; exact (Array.getElem?_eq_some_iff.mp e).1
        obtain ⟨t, et⟩ := IntsAre.int_at hit i v (by rw [Array.getElem?_toList]; exact e)
        exact ⟨ns[i], t, List.getElem?_eq_getElem hi, by rw [et, List.getD_eq_getElem?_getD, List.getElem?_eq_getElem hi]; rfl⟩
      have hq : A.in1.in1.in1.handled = none := by simp [hh]
      refine set_update_ints ((Walks.list hq _ l d1 its).toS) s.heap.objs.size d2 ns hn hb vl (its.size - 0) 0 _ (by omega) (Nat.zero_le _) ⟨⟨_, Heap.get?_push_size _ rfl, rfl, rfl⟩, a5.push _⟩
        ⟨0, Nat.le_refl 0, setR_new_at (Heap.get?_push_of_some _ hs0)⟩ fun s3 c3 mv hc3 R3 => ?_
      obtain ⟨g3, gg, dd, tk3, oo⟩ := s3
      obtain rfl : gg = s.gens := mv.gens
      obtain rfl : dd = s.drawn := mv.drawn
      obtain rfl : oo = s.os := mv.os
      refine (show wpAny _ _ _ _ _ _ from wpAny_pure (show wpAny _ _ (ret Value.none) _ _ _ from wpAny_pure ⟨rfl, g3, tk3, c3, rfl, R3, by omega, fun b o e => ?_⟩))
      have hb0 := Heap.lt_size e
      exact mv.heap b o (by rw [sz]; intro z; rcases List.mem_cons.mp z with z | z
                            · exact absurd z (Nat.ne_of_lt hb0)
                            · exact absurd (List.mem_singleton.mp z) (Nat.ne_of_lt (Nat.lt_succ_of_lt hb0))) (Heap.get?_push_of_some _ (Heap.get?_push_of_some _ e))
    · match r2, e2 with
      | .error _, e2 => exact e2
      | .ok (.next), e2 => exact e2.elim
      | .ok (.brk), e2 => exact e2.elim
      | .ok (.cont), e2 => exact e2.elim
      | .ok (.ret y), e2 =>
        obtain ⟨rfl, g, tk, c, rfl, R2, hc, hk⟩ := e2
        repeat (any_goals (first | assumption | wp_step))
        exact h _ _ _ R2 hc hk
end
section
variable {X : Cx}
/-- set(xs) of a list of ints -/
def rSetL (w : World) (K : PySem.W.Frag) : List V → Hp → VK → Prop := fun vs H Q => ∃ (a : Addr) (ns : List Int), vs = [V.ref a] ∧ SqL K H a (ns.map V.int) ∧ ns.length ≤ 1000 ∧
  ∀ (p : Addr) (c : Nat), H p = none → c ≤ ns.length → Q (.ref p) (upd H p (SetO w p (fun j => decide (j ∈ ns)) c))
theorem cr_setL (hc : X.calm = true) : CallR X (.type "set") (rSetL X.w X.K) := by
  intro pins s σ H vs us Q I r h
  obtain ⟨a, ns, rfl, hS, hlen, q⟩ := h
  rw [Vals.ref1 r]
  obtain ⟨its, rv, pl, hz⟩ := I.list hS
  refine set_lst ns (I.ok.hd hc) pl.isList (by simpa using ints_of_vals rv) (by unfold scanBound; omega) fun g tk c R hcn k => ?_
  exact ⟨.ref _, _, I.laid (t' := tk) k (Nat.le_refl _) (setO_new R), rfl, q _ c (I.hok.fresh (Nat.le_refl _)) hcn⟩
end
end KS

/-! repr(xs) of a list of ints; a law's def whose body knows that no repr is under way -/
namespace KG
open PySem PySem.Spec PyProof.Rows L2
/-! ### the text of a list of ints -/
def datL (ns : List Int) : PyData := .list (ns.map PyData.int)
def reprL (ns : List Int) : Str := (datL ns).shown
theorem small_log {i : Int} {k : Nat} (h0 : 0 < k) (h : i.natAbs < 2 ^ k) : i.natAbs.log2 < k := PySem.Flt.log2_lt_of h0 h
theorem show_all : ∀ (ns : List Int), (∀ n ∈ ns, n.natAbs < 2 ^ 40) → PyData.showableAll (ns.map PyData.int) = true
  | [], _ => rfl
  | a :: r, h => by
    have h1 : a.natAbs.log2 < 1920 := Nat.lt_of_lt_of_le (small_log (by decide) (h a List.mem_cons_self)) (by decide)
    have h2 := show_all r fun n hn => h n (List.mem_cons_of_mem _ hn)
    simp only [List.map_cons, PyData.showableAll, PyData.showable, h2, h1, decide_true, Bool.and_self]
theorem nodict_all : ∀ (ns : List Int), PyData.hasDictAll (ns.map PyData.int) = false
  | [] => rfl
  | a :: r => by simp only [List.map_cons, PyData.hasDictAll, PyData.hasDict, nodict_all r, Bool.or_self]
theorem depth_all : ∀ (ns : List Int), PyData.depthAll (ns.map PyData.int) ≤ 1
  | [] => Nat.zero_le _
  | a :: r => by
    have := depth_all r
    simp only [List.map_cons, PyData.depthAll, PyData.depth]
    omega
theorem leaves_all : ∀ (ns : List Int), (∀ n ∈ ns, n.natAbs < 10 ^ 12) → PyData.leavesShortAll 13 (ns.map PyData.int) = true
  | [], _ => rfl
  | a :: r, h => by
    have h2 := leaves_all r fun n hn => h n (List.mem_cons_of_mem _ hn)
    have h1 : (PyData.shown (.int a)).length ≤ 13 := by
      have := PySem.int_text_length_le10 (a := a) (k := 12) (by decide) (h a List.mem_cons_self)
      have e : (PyData.shown (.int a)).length = (toString a).length := by
        simp only [PyData.shown]
        exact PySem.ofString_length _
      omega
    simp only [List.map_cons, PyData.leavesShortAll, PyData.leavesShort, h2, Bool.and_true, decide_eq_true_eq]
    exact h1
theorem weight_all : ∀ (ns : List Int), (∀ n ∈ ns, n.natAbs < 2 ^ 39) → PyData.weightAll (ns.map PyData.int) ≤ 60 * ns.length
  | [], _ => Nat.le_refl _
  | a :: r, h => by
    have h1 := weight_all r fun n hn => h n (List.mem_cons_of_mem _ hn)
    have h2 : a.natAbs.log2 < 39 := small_log (by decide) (h a List.mem_cons_self)
    simp only [List.map_cons, PyData.weightAll, PyData.weight, List.length_cons]
    split <;> omega
theorem repr_fits {ns : List Int} (h : ∀ n ∈ ns, n.natAbs < 2 ^ 39) (hl : ns.length ≤ 2000) : (reprL ns).length ≤ sizeLine := by
  refine PyData.shown_fits (B := 13) (by decide) (by decide) ?_ ?_
  · show PyData.leavesShort 13 (.list _) = true
    simp only [PyData.leavesShort, leaves_all ns fun n hn => Nat.lt_trans (h n hn) (by decide)]
  · show PyData.weight (.list _) ≤ _
    have := weight_all ns h
    simp only [PyData.weight]
    omega
theorem reads_all {h : Heap} : ∀ {us : List Value} {ns : List Int}, IntsAre us ns → ReadsAll h us (ns.map PyData.int) []
  | _, _, .nil => .nil
  | _, _, .cons n t r => by
    have z := ReadsAll.cons (Reads.int (h := h) n t) (reads_all r)
    exact z
section
variable {X : Cx}
/-- repr(xs) of a list of ints, while no repr is under way -/
def rReprL (K : PySem.W.Frag) : List V → Hp → VK → Prop := fun vs H Q => ∃ (a : Addr) (ns : List Int), vs = [V.ref a] ∧ SqL K H a (ns.map V.int) ∧ (∀ n ∈ ns, n.natAbs < 2 ^ 39) ∧ ns.length ≤ 2000 ∧ Q (.str (reprL ns)) H
theorem cr_reprL (hg : X.A.guards = some []) (hu : X.A.units + 100 < cLine) : CallR X (.builtin "repr") (rReprL X.K) := by
  intro pins s σ H vs us Q I r h
  obtain ⟨a, ns, rfl, hS, hb, hl, q⟩ := h
  rw [Vals.ref1 r]
  obtain ⟨its, rv, ⟨o, n, ho, hc, hdn, hd⟩, hz⟩ := I.list hS
  have rd : Reads s.heap (.ref a) (datL ns) [a] := .list ho hc hd (reads_all (by simpa using ints_of_vals rv))
  refine repr_of_reads' rd (by show PyData.showable (.list _) = true; simp only [PyData.showable]; exact show_all ns fun m hm => Nat.lt_trans (hb m hm) (by decide)) (PyData.noDict_hsm (by show PyData.hasDict (.list _) = false; simp only [PyData.hasDict]; exact nodict_all ns)) hg
    (by have := depth_all ns; show X.A.units + (PyData.depth (.list _) + 1) < cLine; simp only [PyData.depth]; omega) (fun _ _ e => e) (fun g u tk k => ?_) (repr_fits hb hl)
  exact ⟨.str (reprL ns), H, I.kept k, ⟨u, rfl⟩, q⟩
end
end KG

/-! the def of the law itself, called where no repr is under way -/
namespace KW
open PySem PySem.Spec PyProof.Rows L2
/-- the def at f keeps sp where it is called with no repr under way -/
def Kept (P : Program) (w : World) (K : PySem.W.Frag) (mg : Str → Option Value) (base : Heap) (k : Nat) (f : Addr) (fd : FuncData) (ps : List Str) (sp : Sp) : Prop :=
  ∀ (A : Around) (outer : List Env) (s : Shared) (H : Hp) (args : Args) (us : List Value) (vs : List V) (Q : VK) (E : XK), A.guards = some [] → Room k A → Env0 P w K mg base A outer s H →
    BindsTo s fd args (ps.zip us) → Vals vs us → sp vs H Q E → codeAny (model P w) A (.call (.ref f) args) (CR CX0 outer P w H s Q E) s
section
variable {P : Program} {w : World} {K : PySem.W.Frag} {mg : Str → Option Value} {base : Heap}
theorem kept_of {x qual : Str} {st : Stmt} {f : Addr} {fd : FuncData} {N ps : List Str} {k : Nat} {sp : Sp} (F : Fun K x qual st f fd) (S : FnScope N ps (defScope st)) (len : ∀ vs H Q E, sp vs H Q E → vs.length = ps.length)
    (hb : ∀ (cdv : Value) (A : Around) (outer : List Env) (s : Shared) (H : Hp) (vs : List V) (Q : VK) (E : XK), A.guards = some [] → Room k (A.deeper (envOfC qual (defScope st) s.heap.objs.size f cdv)) → sp vs H Q E →
      ∃ t, PSs (cxOf CX0 P w K mg base N qual (defScope st) f cdv A outer s H E).nox (defBody st) t ∧ t { nx := fun _ H' => Q .non H', rt := Q } (start N vs) H) : Kept P w K mg base (k + 1) f fd ps sp := by
  obtain ⟨oc, od, kV, doc, pm, an, cdv, ct, osl, e1, lk, hcd⟩ := F.ex
  subst e1
  intro A outer s H args us vs Q E hg hr e0 bnd r hsp
  obtain ⟨t, d, q⟩ := hb cdv A outer s H vs Q E hg (hr.deeper _) hsp
  have lv := len _ _ _ _ hsp
  have kin : K.In s.heap := e0.mod.kin.keeps fun b o e => (e0.bs b o e).1
  have kd : ∀ y ∈ ps.zip us, (defScope st).names.lookup y.1 = some .local ∨ ((defScope st).names.lookup y.1 = some .cell ∧ ((cellsFrom (s.heap.objs.size + 1) (defScope st).names []).lookup y.1).isSome = true) := by
    rintro ⟨n, v⟩ hy
    exact (S.par n (List.of_mem_zip hy).1).imp id fun z => ⟨z, PySem.W.cellsFrom_some _ _ _ (.inl z)⟩
  refine codeAny_call_function hr.depth (kin _ _ lk) rfl S.co S.gen rfl (PySem.W.codeRec_of kin hcd) (bnd _ _ _ _ (wpAny_newFunctionEnv_cells S.kind kd fun env he s1 x1 => ?_))
  subst he
  refine ⟨(e0.mod.nolimit.keeps fun b o e => (e0.bs b o e).1).keeps x1.toInCall.keep, codeAny_func (wpAny_mono (d.nox.run [] s1 (start N vs) H _ (inv_start S hr.hd e0 lv r x1) q) (fun fl s2 z => ?_) fun _ _ z => z)⟩
  match fl, z with
  | .ret u, ⟨v, σ2, H2, J, rv, q2⟩ => exact ⟨v, H2, J.os, J.bare, J.base, J.hok, rv, q2⟩
  | .next, ⟨σ2, H2, J, q2⟩ => exact ⟨V.non, H2, J.os, J.bare, J.base, J.hok, rfl, q2⟩
  | .brk, ⟨_, _, _, q2⟩ => exact q2.elim
  | .cont, ⟨_, _, _, q2⟩ => exact q2.elim
/-- the heap that tracks the script alone, or nothing where it is the text's own -/
def hpOf (K : PySem.W.Frag) (a : Addr) (o : Obj) (xs : List V) : Hp := fun b => if b = a ∧ K.lookup a = none then some (.frz o (.lst xs)) else none
theorem hpOf_some {K : PySem.W.Frag} {a b : Addr} {o : Obj} {xs : List V} {u : HO} (e : hpOf K a o xs b = some u) : b = a ∧ K.lookup a = none ∧ u = .frz o (.lst xs) := by
  unfold hpOf at e
  split at e
  · rename_i z
    exact ⟨z.1, z.2, (Option.some.inj e).symm⟩
  · cases e
theorem run_law {mb : Str → Option Value} {k : Nat} {fa a : Addr} {fd : FuncData} {x : Str} {sp : Sp} {s1 : Shared} {vs : List Value} {ns : List Int}
    (kin : K.In s1.heap) (h1 : s1.heap.Ns mainGlobals mg) (h2 : s1.heap.Ns builtinsNs mb) (h3 : ∀ y : Str, y ≠ "__name__" → mb y = bootBuiltins y) (h4 : s1.heap.NoLimit) (h5 : s1.gens = #[])
    (ha : s1.heap.get? a = some { cls := .type "list", data := .seq vs.toArray }) (hi : IntsAre vs ns) (hl : ns.length ≤ sizeLine) (hr : Room k callerA)
    (F : ∀ bs : Heap, K.In bs → bs.Ns mainGlobals mg → Kept P w K mg bs k fa fd [x] sp) (hbd : ∀ (s : Shared) (u : Value), BindsTo s fd ⟨[u], []⟩ [(x, u)])
    (hsp : ∀ H : Hp, Only H → SqL K H a (ns.map V.int) → sp [.ref a] H (fun v _ => v = .bl true) fun _ _ _ => False) :
    codeAny (model P w) callerA (.call (.ref fa) ⟨[.ref a], []⟩) (fun r s' => r = .ok (.ret (.bool true)) ∧ OldK s1.heap s'.heap ∧ s'.os = s1.os ∧ AllBare s'.gens) s1 := by
  have rv := vals_ints hi
  let ob : Obj := { cls := .type "list", data := .seq vs.toArray }
  generalize hH : hpOf K a ob (ns.map V.int) = H
  have hsome : ∀ {b u}, H b = some u → b = a ∧ K.lookup a = none ∧ u = .frz ob (.lst (ns.map V.int)) := fun {b u} e => hpOf_some (by rw [hH]; exact e)
  have hO : Only H := fun b => by
    cases e : H b with
    | none => exact .inl rfl
    | some u => exact .inr ⟨_, _, by rw [(hsome e).2.2]⟩
  have hS : SqL K H a (ns.map V.int) := by
    cases e : K.lookup a with
    | none => exact .inl (.inr ⟨ob, by rw [← hH]; exact if_pos ⟨rfl, e⟩⟩)
    | some o =>
      have e2 := kin a o e
      rw [ha] at e2
      cases e2
      exact .inr ⟨_, vs.toArray, _, e, rfl, rfl, rfl, by rw [List.size_toArray, hi.length]; exact hl, by simpa using rv⟩
  have hok : HOk P w H s1.heap := fun b u e => by
    obtain ⟨rfl, _, rfl⟩ := hsome e
    exact ⟨ha, by rw [List.length_map]; exact hl, vs, _, rv, ha⟩
  have free : ∀ {b : Addr} {o : Obj} {es : Array DictEntry} {ep : Nat}, s1.heap.get? b = some o → o.data = .dict es ep → H b = none := fun {b o es ep} e d => by
    cases z : H b with
    | none => rfl
    | some u =>
      obtain ⟨rfl, _, _⟩ := hsome z
      rw [ha] at e
      cases e
      cases d
  have toB : ∀ {b : Addr} {m : Str → Option Value}, s1.heap.Ns b m → (hidT s1.heap H).Ns b m := fun {b m} ⟨o, es, ep, e, d, r⟩ => ⟨o, es, ep, hidT_get e (free e d), d, r⟩
  have kB : K.In (hidT s1.heap H) := fun b o e => hidT_get (kin b o e) (by
    cases z : H b with
    | none => rfl
    | some u =>
      obtain ⟨rfl, z2, _⟩ := hsome z
      rw [z2] at e
      cases e)
  obtain ⟨mc, m1, m2⟩ := h4
  have e0 : Env0 P w K mg (hidT s1.heap H) callerA [] s1 H := ⟨rfl, ⟨kB, toB h1, ⟨mb, toB h2, h3⟩, ⟨mc, toB m1, m2⟩⟩, fun b o e => of_hidT e, Nat.le_of_eq (hidT_size _ _), trivial, fun b hb => (List.not_mem_nil (show b ∈ ([] : List Addr) from hb)).elim, hok, .of_eq h5⟩
  refine codeAny_mono (F _ kB (toB h1) callerA [] s1 H ⟨[.ref a], []⟩ [.ref a] [.ref a] _ _ rfl hr e0 (hbd s1 (.ref a)) (.cons rfl .nil) (hsp H hO hS)) fun r s2 z => ?_
  match r, z with
  | .error _, z => exact z.elim
  | .ok .next, z => exact z.elim
  | .ok .brk, z => exact z.elim
  | .ok .cont, z => exact z.elim
  | .ok (.ret u), ⟨v, H2, os, bare, un, hok2, rr, q⟩ =>
    have q2 : v = .bl true := q
    subst q2
    obtain rfl : u = Value.bool true := rr
    refine ⟨rfl, OldK.of_keep fun b o e => ?_, os, bare⟩
    cases z : H b with
    | none => exact un.keep b o e z (fun m => (List.not_mem_nil (show b ∈ ([] : List Addr) from m)).elim) (by simp)
    | some u =>
      obtain ⟨_, _, rfl⟩ := hsome z
      have t1 := (hok b _ z).1
      have t2 := (hok2 b _ (un.frzs b ob _ z)).1
      rw [e] at t1
      rw [t2, ← t1]
/-- the end: the law's promise over the written part alone -/
theorem walk_kept {l : PySem.W.OpenLaw} {n k : Nat} {q : Program} {loose : List Str} {XP : (Str → Option Value) → Heap → Prop} {YP : World → Heap → Prop} {d : DefRec} {KK : Params → PySem.W.Frag} {sp : PySem.W.Frag → Sp} {x : Str}
    (hn : l.most = some n) (hn2 : n ≤ sizeLine) (hdf : d.params.defaults = []) (hr : Room k callerA) (hY : ∀ (w : World) (h : Heap), YP w h → (KK w.params).In h)
    (F : ∀ (w : World) (mg : Str → Option Value) (fa : Addr) (h : Heap), (KK w.params).In h → h.Ns mainGlobals mg → mg d.name = some (.ref fa) →
      ∃ fd : FuncData, (∀ (s : Shared) (u : Value), BindsTo s fd ⟨[u], []⟩ [(x, u)]) ∧ ∀ bs : Heap, (KK w.params).In bs → bs.Ns mainGlobals mg → Kept l.prog w (KK w.params) mg bs k fa fd [x] (sp (KK w.params)))
    (hsp : ∀ (K : PySem.W.Frag) (H : Hp) (a : Addr) (ns : List Int), ns.length ≤ n → Only H → SqL K H a (ns.map V.int) → sp K [.ref a] H (fun v _ => v = .bl true) fun _ _ _ => False) :
    PySem.W.WalkO q loose XP YP l.row.toRowW d [] (fun f vs => PySem.call f vs) := by
  refine Att.attach_call hn hdf fun w s0 s1 mg mb fa o pm cd doc a vs ns G Y ho hd hcd hmg hobj hints hlen hg => ?_
  obtain ⟨fd, hb, hF⟩ := F w mg fa _ (hY w _ Y) G.T.g hmg
  exact run_law (hY w _ Y) G.T.g G.T.b G.T.builtins G.T.nolimit hg hobj hints (Nat.le_trans hlen hn2) hr hF hb fun H hO hS => hsp (KK w.params) H a ns hlen hO hS
end
end KW

/-! turning points, as mathematics: the stack's way and the law's way -/
namespace PM
/-- r lies between its neighbours b and a -/
abbrev Btw (r b a : Int) : Prop := (b < r ∧ r < a) ∨ (a < r ∧ r < b)
/-- the stack's way from b, a (a on top) on -/
def tq : Int → Int → List Int → List Int
  | _, a, [] => [a]
  | b, a, r :: l => if a = r then tq b a l else if Btw a b r then tq b r l else a :: tq a r l
def ts : Int → List Int → List Int
  | a, [] => [a]
  | a, r :: l => if a = r then ts a l else a :: tq a r l
def tp : List Int → List Int
  | [] => []
  | x :: l => ts x l
/-- repeated readings once -/
def ddf : Int → List Int → List Int
  | _, [] => []
  | p, x :: l => if x = p then ddf p l else x :: ddf x l
def dd : List Int → List Int
  | [] => []
  | x :: l => x :: ddf x l
/-- the law's way, over readings that differ from their neighbours -/
def lq : Int → Int → List Int → List Int
  | _, c, [] => [c]
  | p, c, d :: l => if (decide (c > p) = decide (c > d)) then c :: lq c d l else lq c d l
def lp : List Int → List Int
  | [] => []
  | [x] => [x]
  | x :: y :: l => x :: lq x y l
theorem tq_lq : ∀ (l : List Int) (b p a : Int), a ≠ b → a ≠ p → (a > b ↔ a > p) → tq b a l = lq p a (ddf a l)
  | [], _, _, _, _, _, _ => rfl
  | r :: l, b, p, a, h1, h2, h3 => by
    simp only [tq, ddf]
    by_cases e : a = r
    · rw [if_pos e, if_pos e.symm]
      exact tq_lq l b p a h1 h2 h3
    · rw [if_neg e, if_neg (show ¬ r = a from fun z => e z.symm)]
      simp only [lq]
      by_cases bt : Btw a b r
      · rw [if_pos bt]
        have hk : ¬ (decide (a > p) = decide (a > r)) := by
          intro z
          rw [decide_eq_decide] at z
          omega
        rw [if_neg hk]
        exact tq_lq l b a r (by omega) (fun z => e z.symm) (by omega)
      · rw [if_neg bt]
        have hk : decide (a > p) = decide (a > r) := by
          rw [decide_eq_decide]
          omega
        rw [if_pos hk]
        rw [tq_lq l a a r (fun z => e z.symm) (fun z => e z.symm) Iff.rfl]
theorem ts_lp : ∀ (l : List Int) (a : Int), ts a l = lp (a :: ddf a l)
  | [], _ => rfl
  | r :: l, a => by
    simp only [ts, ddf]
    by_cases e : a = r
    · rw [if_pos e, if_pos e.symm]
      exact ts_lp l a
    · rw [if_neg e, if_neg (show ¬ r = a from fun z => e z.symm)]
      rw [tq_lq l a a r (fun z => e z.symm) (fun z => e z.symm) Iff.rfl]
      rfl
theorem tp_lp (ns : List Int) : tp ns = lp (dd ns) := by
  cases ns with
  | nil => rfl
  | cons a l => exact ts_lp l a
/-- what the stack leaves, goes through the stack as it is -/
theorem tq_again : ∀ (l : List Int) (b a : Int), a ≠ b → ∃ x s, tq b a l = x :: s ∧ x ≠ b ∧ (x > b ↔ a > b) ∧ tq b x s = x :: s
  | [], b, a, h => ⟨a, [], rfl, h, Iff.rfl, rfl⟩
  | r :: l, b, a, h => by
    simp only [tq]
    by_cases e : a = r
    · rw [if_pos e]
      exact tq_again l b a h
    · rw [if_neg e]
      by_cases bt : Btw a b r
      · rw [if_pos bt]
        obtain ⟨x, s, h1, h2, h3, h4⟩ := tq_again l b r (by omega)
        exact ⟨x, s, h1, h2, by omega, h4⟩
      · rw [if_neg bt]
        obtain ⟨y, s, h1, h2, h3, h4⟩ := tq_again l a r (fun z => e z.symm)
        refine ⟨a, y :: s, by rw [h1], h, Iff.rfl, ?_⟩
        simp only [tq]
        have n1 : ¬ Btw a b y := by
          intro z
          have h6 : r > a ↔ y > a := h3.symm
          omega
        rw [if_neg (fun z : a = y => h2 z.symm), if_neg n1, h4]
theorem ts_again : ∀ (l : List Int) (a : Int), tp (ts a l) = ts a l
  | [], _ => rfl
  | r :: l, a => by
    simp only [ts]
    by_cases e : a = r
    · rw [if_pos e]
      exact ts_again l a
    · rw [if_neg e]
      obtain ⟨x, s, h1, h2, _, h4⟩ := tq_again l a r (fun z => e z.symm)
      rw [h1]
      show ts a (x :: s) = a :: x :: s
      simp only [ts]
      rw [if_neg (fun z : a = x => h2 z.symm), h4]
theorem tp_again (ns : List Int) : tp (tp ns) = tp ns := by
  cases ns with
  | nil => rfl
  | cons a l => exact ts_again l a
theorem tq_last : ∀ (l : List Int) (b a z : Int), (a :: l).getLast? = some z → tq b a (l ++ [z]) = tq b a l
  | [], b, a, z, h => by
    have e : a = z := Option.some.inj h
    subst e
    show tq b a [a] = [a]
    simp only [tq, if_true]
  | r :: l, b, a, z, h => by
    have h2 : (r :: l).getLast? = some z := by rw [List.getLast?_cons_cons] at h; exact h
    show tq b a (r :: (l ++ [z])) = tq b a (r :: l)
    simp only [tq]
    by_cases e : a = r
    · rw [if_pos e, if_pos e]
      subst e
      exact tq_last l b a z h2
    · rw [if_neg e, if_neg e, tq_last l b r z h2, tq_last l a r z h2]
theorem ts_last : ∀ (l : List Int) (a z : Int), (a :: l).getLast? = some z → ts a (l ++ [z]) = ts a l
  | [], a, z, h => by
    have e : a = z := Option.some.inj h
    subst e
    show ts a [a] = [a]
    simp only [ts, if_true]
  | r :: l, a, z, h => by
    have h2 : (r :: l).getLast? = some z := by rw [List.getLast?_cons_cons] at h; exact h
    show ts a (r :: (l ++ [z])) = ts a (r :: l)
    simp only [ts]
    by_cases e : a = r
    · rw [if_pos e, if_pos e]
      subst e
      exact ts_last l a z h2
    · rw [if_neg e, if_neg e, tq_last l a r z h2]
theorem tp_last (ns : List Int) (z : Int) (h : ns.getLast? = some z) : tp (ns ++ [z]) = tp ns := by
  cases ns with
  | nil => simp at h
  | cons a l => exact ts_last l a z h
/-- sizes and bounds -/
theorem tq_mem : ∀ (l : List Int) (b a x : Int), x ∈ tq b a l → x = a ∨ x ∈ l
  | [], _, _, x, h => .inl (List.mem_singleton.mp h)
  | r :: l, b, a, x, h => by
    simp only [tq] at h
    split at h
    · rcases tq_mem l b a x h with z | z
      · exact .inl z
      · exact .inr (List.mem_cons_of_mem _ z)
    · split at h
      · rcases tq_mem l b r x h with z | z
        · rw [z]; exact .inr List.mem_cons_self
        · exact .inr (List.mem_cons_of_mem _ z)
      · rcases List.mem_cons.mp h with z | z
        · exact .inl z
        · rcases tq_mem l a r x z with z | z
          · rw [z]; exact .inr List.mem_cons_self
          · exact .inr (List.mem_cons_of_mem _ z)
theorem tq_len : ∀ (l : List Int) (b a : Int), (tq b a l).length ≤ l.length + 1
  | [], _, _ => Nat.le_refl _
  | r :: l, b, a => by
    have h1 := tq_len l b a
    have h2 := tq_len l b r
    have h3 := tq_len l a r
    simp only [tq, List.length_cons]
    split
    · omega
    · split
      · omega
      · rw [List.length_cons]; omega
theorem ts_mem : ∀ (l : List Int) (a x : Int), x ∈ ts a l → x = a ∨ x ∈ l
  | [], _, x, h => .inl (List.mem_singleton.mp h)
  | r :: l, a, x, h => by
    simp only [ts] at h
    split at h
    · rcases ts_mem l a x h with z | z
      · exact .inl z
      · exact .inr (List.mem_cons_of_mem _ z)
    · rcases List.mem_cons.mp h with z | z
      · exact .inl z
      · rcases tq_mem l a r x z with z | z
        · rw [z]; exact .inr List.mem_cons_self
        · exact .inr (List.mem_cons_of_mem _ z)
theorem ts_len : ∀ (l : List Int) (a : Int), (ts a l).length ≤ l.length + 1
  | [], _ => Nat.le_refl _
  | r :: l, a => by
    have h1 := ts_len l a
    have h2 := tq_len l a r
    simp only [ts, List.length_cons]
    split
    · omega
    · rw [List.length_cons]; omega
theorem tp_mem {ns : List Int} {x : Int} (h : x ∈ tp ns) : x ∈ ns := by
  cases ns with
  | nil => exact h
  | cons a l =>
    rcases ts_mem l a x h with z | z
    · rw [z]; exact List.mem_cons_self
    · exact List.mem_cons_of_mem _ z
theorem tp_len (ns : List Int) : (tp ns).length ≤ ns.length := by
  cases ns with
  | nil => exact Nat.le_refl _
  | cons a l => exact ts_len l a
/-- the swings of turning points -/
def rg (a b : Int) : Int × Int := (if b < a then b else a, if b > a then b else a)
def sw : List Int → List (Int × Int)
  | x :: y :: l => rg x y :: sw (y :: l)
  | _ => []
theorem sw_len : ∀ ps : List Int, (sw ps).length = ps.length - 1
  | [] => rfl
  | [_] => rfl
  | x :: y :: l => by
    have := sw_len (y :: l)
    simp only [sw, List.length_cons] at this ⊢
    omega
theorem sw_take : ∀ (ps : List Int) (i : Nat) (x y : Int), ps[i]? = some x → ps[i + 1]? = some y → (sw ps).take (i + 1) = (sw ps).take i ++ [rg x y]
  | [], _, _, _, h, _ => by simp at h
  | [_], 0, _, _, _, h => by simp at h
  | [_], i + 1, _, _, h, _ => by simp at h
  | a :: b :: l, 0, x, y, h, h2 => by
    have e1 : a = x := Option.some.inj h
    have e2 : b = y := Option.some.inj h2
    subst e1 e2
    rfl
  | a :: b :: l, i + 1, x, y, h, h2 => by
    have ih := sw_take (b :: l) i x y h h2
    show rg a b :: (sw (b :: l)).take (i + 1) = rg a b :: (sw (b :: l)).take i ++ [rg x y]
    rw [ih]
    rfl
theorem sw_mem : ∀ (ps : List Int) (B : Nat), (∀ x ∈ ps, x.natAbs < B) → ∀ r ∈ sw ps, r.1.natAbs < B ∧ r.2.natAbs < B
  | [], _, _, r, h => by simp [sw] at h
  | [_], _, _, r, h => by simp [sw] at h
  | x :: y :: l, B, hb, r, h => by
    rcases List.mem_cons.mp (show r ∈ rg x y :: sw (y :: l) from h) with z | z
    · have h1 := hb x List.mem_cons_self
      have h2 := hb y (List.mem_cons_of_mem _ List.mem_cons_self)
      rw [z]
      unfold rg
      constructor <;> (dsimp only; split <;> assumption)
    · exact sw_mem (y :: l) B (fun x hx => hb x (List.mem_cons_of_mem _ hx)) r z
end PM

/-! points taken out, in any order: one count -/
namespace RM
open PM
/-- of four points in a row, the middle two may be taken out -/
abbrev Taken (a b c d : Int) : Prop := ((rg a b).1 ≤ (rg b c).1 ∧ (rg b c).2 ≤ (rg a b).2) ∧ ((rg c d).1 ≤ (rg b c).1 ∧ (rg b c).2 ≤ (rg c d).2)
/-- up and down by turns -/
def ZZ : List Int → Prop
  | x :: y :: z :: r => ((x < y ∧ z < y) ∨ (y < x ∧ y < z)) ∧ ZZ (y :: z :: r)
  | [x, y] => x ≠ y
  | _ => True
inductive Step : List Int → Int × Int → List Int → Prop
  | here {a b c d : Int} {post : List Int} : Taken a b c d → Step (a :: b :: c :: d :: post) (rg b c) (a :: d :: post)
  | there {x : Int} {p q : List Int} {cy : Int × Int} : Step p cy q → Step (x :: p) cy (x :: q)
theorem ZZ.tail {x : Int} : ∀ {p : List Int}, ZZ (x :: p) → ZZ p
  | [], _ => trivial
  | [_], _ => trivial
  | [y, z], h => by
    have h1 := h.1
    show y ≠ z
    omega
  | y :: z :: u :: r, h => h.2
theorem Step.head {x : Int} {p q : List Int} {cy : Int × Int} (h : Step (x :: p) cy q) : ∃ q', q = x :: q' := by
  cases h with
  | here _ => exact ⟨_, rfl⟩
  | there _ => exact ⟨_, rfl⟩
theorem Step.len {p q : List Int} {cy : Int × Int} (h : Step p cy q) : p.length = q.length + 2 := by
  induction h with
  | here _ => simp only [List.length_cons]
  | there _ ih => simp only [List.length_cons]; omega
theorem rg_up {a b : Int} (h : a < b) : rg a b = (a, b) := by unfold rg; rw [if_neg (by omega), if_pos (by omega)]
theorem rg_down {a b : Int} (h : b < a) : rg a b = (b, a) := by unfold rg; rw [if_pos h, if_neg (by omega)]
/-- among points that go up and down -/
theorem taken_iff {a b c d : Int} (h : ZZ (a :: b :: c :: d :: [])) : Taken a b c d ↔ (a < b ∧ c < b ∧ c < d ∧ a ≤ c ∧ b ≤ d) ∨ (b < a ∧ b < c ∧ d < c ∧ c ≤ a ∧ d ≤ b) := by
  have h1 := h.1
  have h2 := h.2.1
  unfold Taken
  rcases h1 with ⟨x, y⟩ | ⟨x, y⟩
  · have z : c < d := by omega
    rw [rg_up x, rg_down y, rg_up z]
    dsimp only
    omega
  · have z : d < c := by omega
    rw [rg_down x, rg_up y, rg_down z]
    dsimp only
    omega
theorem ZZ.four {a b c d : Int} {r : List Int} (h : ZZ (a :: b :: c :: d :: r)) : ZZ (a :: b :: c :: d :: []) := by
  refine ⟨h.1, h.2.1, ?_⟩
  have := h.2.1
  show c ≠ d
  omega
theorem zz_here {a b c d : Int} : ∀ {post : List Int}, ZZ (a :: b :: c :: d :: post) → Taken a b c d → ZZ (a :: d :: post)
  | [], h, t => by
    rcases (taken_iff h.four).mp t with z | z
    · show a ≠ d
      omega
    · show a ≠ d
      omega
  | e :: r, h, t => by
    have h3 := h.2.2.1
    refine ⟨?_, h.2.2.2⟩
    rcases (taken_iff h.four).mp t with z | z <;> omega
theorem zz_cons {x y : Int} {p : List Int} (h : ZZ (x :: y :: p)) : x ≠ y := by
  cases p with
  | nil => exact h
  | cons z r => have := h.1; omega
theorem ZZ.step {p q : List Int} {cy : Int × Int} (h : Step p cy q) : ZZ p → ZZ q := by
  induction h with
  | here t => exact fun z => zz_here z t
  | @there x p q cy h ih =>
    intro z
    have zq := ih z.tail
    cases h with
    | @here a b c d post t =>
      have z1 := z.1
      have ti := (taken_iff z.tail.four).mp t
      refine ⟨?_, zq⟩
      rcases ti with t | t <;> omega
    | @there y p' q' cy' h' =>
      cases q' with
      | nil =>
        have := h'.len
        exact zz_cons z
      | cons u v =>
        cases p' with
        | nil => have := h'.len; simp at this
        | cons u' v' =>
          obtain ⟨v'', e⟩ := h'.head
          have e1 : u = u' := (List.cons.inj e).1
          subst e1
          exact ⟨z.1, zq⟩
/-- two ways to go on meet again -/
theorem diamond {p p1 : List Int} {c1 : Int × Int} (h1 : Step p c1 p1) : ∀ {p2 : List Int} {c2 : Int × Int}, Step p c2 p2 → ZZ p → (c1 = c2 ∧ p1 = p2) ∨ ∃ p3, Step p1 c2 p3 ∧ Step p2 c1 p3 := by
  have key : ∀ {a b c d : Int} {post : List Int} {p2 : List Int} {c2 : Int × Int}, Taken a b c d → Step (b :: c :: d :: post) c2 p2 → ZZ (a :: b :: c :: d :: post) →
      (rg b c = c2 ∧ a :: d :: post = a :: p2) ∨ ∃ p3, Step (a :: d :: post) c2 p3 ∧ Step (a :: p2) (rg b c) p3 := by
    intro a b c d post p2 c2 t h z
    have t1 := (taken_iff z.four).mp t
    cases h with
    | @here _ _ _ e post' t2 =>
      have t3 := (taken_iff z.tail.four).mp t2
      have ebd : b = d := by omega
      subst ebd
      refine .inl ⟨?_, rfl⟩
      have z1 := z.1
      rcases z1 with ⟨x, y⟩ | ⟨x, y⟩
      · rw [rg_down y, rg_up y]
      · rw [rg_up y, rg_down y]
    | @there _ _ q2 _ h2 =>
      cases h2 with
      | @here _ _ e f post' t2 =>
        have t3 := (taken_iff z.tail.tail.four).mp t2
        have za : ZZ (a :: d :: e :: f :: post') := zz_here z t
        have zb : ZZ (a :: b :: c :: f :: post') := ZZ.step (.there (.there (.here t2))) z
        exact .inr ⟨a :: f :: post', .here ((taken_iff za.four).mpr (by omega)), .here ((taken_iff zb.four).mpr (by omega))⟩
      | @there _ _ q3 _ h3 =>
        obtain ⟨q4, rfl⟩ := h3.head
        exact .inr ⟨a :: d :: q4, .there h3, .here t⟩
  induction h1 with
  | @here a b c d post t =>
    intro p2 c2 h2 z
    cases h2 with
    | here _ => exact .inl ⟨rfl, rfl⟩
    | @there _ _ q2 _ h2 => exact key t h2 z
  | @there x p q cy h1 ih =>
    intro p2 c2 h2 z
    cases h2 with
    | @here a b c d post t =>
      rcases key t h1 z with ⟨e1, e2⟩ | ⟨p3, s1, s2⟩
      · exact .inl ⟨e1.symm, e2.symm⟩
      · exact .inr ⟨p3, s2, s1⟩
    | @there _ _ q2 _ h2 =>
      rcases ih h2 z.tail with ⟨e1, e2⟩ | ⟨p3, s1, s2⟩
      · exact .inl ⟨e1, by rw [e2]⟩
      · exact .inr ⟨x :: p3, .there s1, .there s2⟩
inductive Run : List Int → List (Int × Int) → List Int → Prop
  | nil (p : List Int) : Run p [] p
  | cons {p q r : List Int} {c : Int × Int} {cs : List (Int × Int)} : Step p c q → Run q cs r → Run p (c :: cs) r
/-- nothing can be taken out -/
def NF (p : List Int) : Prop := ∀ c q, ¬ Step p c q
theorem Run.snoc {p q r : List Int} {c : Int × Int} {cs : List (Int × Int)} (h : Run p cs q) (s : Step q c r) : Run p (cs ++ [c]) r := by
  induction h with
  | nil p => exact .cons s (.nil _)
  | cons h1 _ ih => exact .cons h1 (ih s)
theorem Run.zz {p q : List Int} {cs : List (Int × Int)} (h : Run p cs q) : ZZ p → ZZ q := by
  induction h with
  | nil p => exact id
  | cons h1 _ ih => exact fun z => ih (ZZ.step h1 z)
theorem Run.len {p q : List Int} {cs : List (Int × Int)} (h : Run p cs q) : p.length = q.length + 2 * cs.length := by
  induction h with
  | nil p => simp
  | cons h1 _ ih => have := h1.len; rw [List.length_cons]; omega
theorem ends : ∀ (n : Nat) (p : List Int), p.length ≤ n → ∃ cs r, Run p cs r ∧ NF r
  | 0, p, h => ⟨[], p, .nil p, fun c q s => by have := s.len; omega⟩
  | n + 1, p, h => by
    by_cases e : ∃ c q, Step p c q
    · obtain ⟨c, q, s⟩ := e
      have := s.len
      obtain ⟨cs, r, h1, h2⟩ := ends n q (by omega)
      exact ⟨c :: cs, r, .cons s h1, h2⟩
    · exact ⟨[], p, .nil p, fun c q s => e ⟨c, q, s⟩⟩
/-- in whatever order points are taken out, the same cycles and the same rest come out -/
theorem unique : ∀ (n : Nat) (p : List Int), p.length ≤ n → ZZ p → ∀ {cs ds : List (Int × Int)} {r s : List Int}, Run p cs r → NF r → Run p ds s → NF s → r = s ∧ cs.Perm ds := by
  intro n
  induction n with
  | zero =>
    intro p hp z cs ds r s h1 n1 h2 n2
    cases h1 with
    | nil _ => cases h2 with
      | nil _ => exact ⟨rfl, .nil⟩
      | cons s2 _ => exact absurd s2 (n1 _ _)
    | cons s1 _ => have := s1.len; omega
  | succ n ih =>
    intro p hp z cs ds r s h1 n1 h2 n2
    cases h1 with
    | nil _ => cases h2 with
      | nil _ => exact ⟨rfl, .nil⟩
      | cons s2 _ => exact absurd s2 (n1 _ _)
    | @cons _ q1 _ c1 cs' s1 r1 =>
      cases h2 with
      | nil _ => exact absurd s1 (n2 _ _)
      | @cons _ q2 _ c2 ds' s2 r2 =>
        have l1 := s1.len
        have l2 := s2.len
        rcases diamond s1 s2 z with ⟨e1, e2⟩ | ⟨p3, t1, t2⟩
        · subst e1 e2
          obtain ⟨e, pm⟩ := ih q1 (by omega) (ZZ.step s1 z) r1 n1 r2 n2
          exact ⟨e, pm.cons _⟩
        · obtain ⟨es, t, r3, n3⟩ := ends p3.length p3 (Nat.le_refl _)
          obtain ⟨e1, m1⟩ := ih q1 (by omega) (ZZ.step s1 z) r1 n1 (.cons t1 r3) n3
          obtain ⟨e2, m2⟩ := ih q2 (by omega) (ZZ.step s2 z) r2 n2 (.cons t2 r3) n3
          refine ⟨e1.trans e2.symm, ?_⟩
          exact ((m1.cons c1).trans (.swap c2 c1 es)).trans (m2.symm.cons c2)
theorem one_count {p : List Int} (z : ZZ p) {cs ds : List (Int × Int)} {r s : List Int} (h1 : Run p cs r) (n1 : NF r) (h2 : Run p ds s) (n2 : NF s) : r = s ∧ cs.Perm ds := unique p.length p (Nat.le_refl _) z h1 n1 h2 n2
/-! ### the stack's way -/
theorem Step.suffix {p q : List Int} {cy : Int × Int} (h : Step p cy q) (l : List Int) : Step (p ++ l) cy (q ++ l) := by
  induction h with
  | here t => exact .here t
  | there _ ih => exact .there ih
theorem Step.prefix {p q : List Int} {cy : Int × Int} (h : Step p cy q) : ∀ l : List Int, Step (l ++ p) cy (l ++ q)
  | [] => h
  | x :: l => .there (h.prefix l)
theorem step_last {p : List Int} {cy : Int × Int} {q : List Int} (h : Step p cy q) : ∀ {m : List Int} {x : Int}, p = m ++ [x] → (∃ q', Step m cy q' ∧ q = q' ++ [x]) ∨ ∃ pre a b c, p = pre ++ [a, b, c, x] ∧ Taken a b c x := by
  induction h with
  | @here a b c d post t =>
    intro m x e
    rcases List.eq_nil_or_concat post with rfl | ⟨post', y, rfl⟩
    · have e2 : [a, b, c] ++ [d] = m ++ [x] := e
      obtain ⟨_, e4⟩ := List.append_inj' e2 rfl
      have e5 : d = x := (List.cons.inj e4).1
      subst e5
      exact .inr ⟨[], a, b, c, rfl, t⟩
    · have e2 : (a :: b :: c :: d :: post') ++ [y] = m ++ [x] := by rw [← e]; simp
      obtain ⟨e3, e4⟩ := List.append_inj' e2 rfl
      have e5 : y = x := (List.cons.inj e4).1
      subst e5 e3
      exact .inl ⟨a :: d :: post', .here t, by simp⟩
  | @there y p q cy h ih =>
    intro m x e
    cases m with
    | nil =>
      have e2 : p = [] := (List.cons.inj e).2
      subst e2
      cases h
    | cons y' m' =>
      obtain ⟨e1, e2⟩ := List.cons.inj e
      subst e1
      rcases ih e2 with ⟨q', s, e3⟩ | ⟨pre, a, b, c, e3, t⟩
      · exact .inl ⟨y :: q', .there s, by rw [e3]; rfl⟩
      · exact .inr ⟨y :: pre, a, b, c, by rw [e3]; rfl, t⟩
theorem nf_push {m : List Int} {x : Int} (h : NF m) (n : ∀ pre a b c, m ++ [x] = pre ++ [a, b, c, x] → ¬ Taken a b c x) : NF (m ++ [x]) := by
  intro cy q s
  rcases step_last s rfl with ⟨q', s', _⟩ | ⟨pre, a, b, c, e, t⟩
  · exact h _ _ s'
  · exact n pre a b c e t
theorem nf_prefix {m l : List Int} (h : NF (m ++ l)) : NF m := fun cy q s => h _ _ (s.suffix l)
/-- turning points go up and down -/
theorem tq_zz : ∀ (l : List Int) (b a : Int), a ≠ b → ∃ x s, tq b a l = x :: s ∧ (x > b ↔ a > b) ∧ x ≠ b ∧ ZZ (b :: x :: s)
  | [], b, a, h => ⟨a, [], rfl, Iff.rfl, h, fun z => h z.symm⟩
  | r :: l, b, a, h => by
    simp only [tq]
    by_cases e : a = r
    · rw [if_pos e]
      exact tq_zz l b a h
    · rw [if_neg e]
      by_cases bt : Btw a b r
      · rw [if_pos bt]
        obtain ⟨x, s, h1, h2, h3, h4⟩ := tq_zz l b r (by omega)
        exact ⟨x, s, h1, by omega, h3, h4⟩
      · rw [if_neg bt]
        obtain ⟨y, s, h1, h2, h3, h4⟩ := tq_zz l a r (fun z => e z.symm)
        refine ⟨a, y :: s, by rw [h1], Iff.rfl, h, ?_, h4⟩
        have h5 : y > a ↔ r > a := h2
        omega
theorem ts_zz : ∀ (l : List Int) (a : Int), ZZ (ts a l)
  | [], _ => trivial
  | r :: l, a => by
    simp only [ts]
    by_cases e : a = r
    · rw [if_pos e]
      exact ts_zz l a
    · rw [if_neg e]
      obtain ⟨x, s, h1, _, _, h4⟩ := tq_zz l a r (fun z => e z.symm)
      rw [h1]
      exact h4
theorem tp_zz (ns : List Int) : ZZ (tp ns) := by
  cases ns with
  | nil => exact trivial
  | cons a l => exact ts_zz l a
end RM

/-! heaps; the texts of data; a walk over two tuples -/
namespace KA
open PySem PySem.Spec PyProof.Rows L2
theorem same_new {H : Hp} {p : Addr} {o : HO} (h : H p = none) : Same H (upd H p o) := fun b x e => by
  rw [upd_ne (ne_of_none e h)]
  exact e
theorem same_again {H0 H : Hp} {p : Addr} {o : HO} (h : H0 p = none) (s : Same H0 H) : Same H0 (upd H p o) := fun b x e => by
  rw [upd_ne (ne_of_none e h)]
  exact s b x e
theorem SqT_same {K : PySem.W.Frag} {H H' : Hp} {a : Addr} {xs : List V} (e : Same H H') (h : SqT K H a xs) : SqT K H' a xs := by
  rcases h with (h | ⟨o, h⟩) | h
  · exact .inl (.inl (e _ _ h))
  · exact .inl (.inr ⟨o, e _ _ h⟩)
  · exact .inr h
theorem int_at {ns : List Int} {i : Nat} {x : V} (h : (ns.map V.int)[i]? = some x) : ∃ r, ns[i]? = some r ∧ x = .int r := by
  rw [List.getElem?_map] at h
  cases e : ns[i]? with
  | none => rw [e] at h; cases h
  | some r => rw [e] at h; exact ⟨r, rfl, (Option.some.inj h).symm⟩
theorem small3000 {n : Nat} (h : n ≤ 3000) : n < sizeLine := Nat.lt_of_le_of_lt h (by decide)
theorem at_int {ns : List Int} {i : Nat} {r : Int} (h : ns[i]? = some r) : (ns.map V.int)[i]? = some (.int r) := by
  rw [List.getElem?_map, h]
  rfl
end KA
namespace KB
end KB
namespace PH
open PySem PySem.Spec PyProof.Rows L2 KA
/-- a list or a tuple of xs stands at a -/
def Sq (K : PySem.W.Frag) (H : Hp) (a : Addr) (xs : List V) : Prop := SqL K H a xs ∨ SqT K H a xs
theorem Sq.same {K : PySem.W.Frag} {H H' : Hp} {a : Addr} {xs : List V} (h : Sq K H a xs) (e : Same H H') : Sq K H' a xs := h.elim (fun z => .inl (e.seq z)) (fun z => .inr (SqT_same e z))
/-- pairs of ints stand at the refs of xs -/
def PairsAt (H : Hp) : List V → List (Int × Int) → Prop
  | [], [] => True
  | x :: xs, r :: rs => (∃ p, x = .ref p ∧ H p = some (.tup [.int r.1, .int r.2])) ∧ PairsAt H xs rs
  | _, _ => False
theorem PairsAt.same {H H' : Hp} (e : Same H H') : ∀ {xs : List V} {rs : List (Int × Int)}, PairsAt H xs rs → PairsAt H' xs rs
  | [], [], _ => trivial
  | x :: xs, r :: rs, ⟨⟨p, h1, h2⟩, h3⟩ => ⟨⟨p, h1, e _ _ h2⟩, PairsAt.same e h3⟩
  | [], _ :: _, h => h.elim
  | _ :: _, [], h => h.elim
theorem PairsAt.length {H : Hp} : ∀ {xs : List V} {rs : List (Int × Int)}, PairsAt H xs rs → xs.length = rs.length
  | [], [], _ => rfl
  | x :: xs, r :: rs, ⟨_, h3⟩ => by rw [List.length_cons, List.length_cons, PairsAt.length h3]
  | [], _ :: _, h => h.elim
  | _ :: _, [], h => h.elim
theorem PairsAt.append {H : Hp} : ∀ {xs ys : List V} {rs ss : List (Int × Int)}, PairsAt H xs rs → PairsAt H ys ss → PairsAt H (xs ++ ys) (rs ++ ss)
  | [], _, [], _, _, h => h
  | x :: xs, _, r :: rs, _, ⟨h1, h2⟩, h => ⟨h1, PairsAt.append h2 h⟩
  | [], _, _ :: _, _, h, _ => h.elim
  | _ :: _, _, [], _, h, _ => h.elim
theorem PairsAt.take {H : Hp} : ∀ {xs : List V} {rs : List (Int × Int)} (n : Nat), PairsAt H xs rs → PairsAt H (xs.take n) (rs.take n)
  | [], [], n, _ => by simp [PairsAt]
  | x :: xs, r :: rs, 0, _ => trivial
  | x :: xs, r :: rs, n + 1, ⟨h1, h2⟩ => ⟨h1, PairsAt.take n h2⟩
  | [], _ :: _, _, h => h.elim
  | _ :: _, [], _, h => h.elim
theorem PairsAt.get {H : Hp} : ∀ {xs : List V} {rs : List (Int × Int)} {i : Nat} {x : V}, PairsAt H xs rs → xs[i]? = some x → ∃ p a b, x = .ref p ∧ H p = some (.tup [.int a, .int b])
  | x :: xs, r :: rs, 0, y, ⟨⟨p, h1, h2⟩, _⟩, e => ⟨p, r.1, r.2, by rw [← h1]; exact (Option.some.inj e).symm, h2⟩
  | x :: xs, r :: rs, i + 1, y, ⟨_, h⟩, e => PairsAt.get h e
  | [], [], i, y, _, e => by simp at e
  | [], _ :: _, _, _, h, _ => h.elim
  | _ :: _, [], _, _, h, _ => h.elim
/-! ### data -/
def dInts (ns : List Int) : List PyData := ns.map PyData.int
def dPairs (rs : List (Int × Int)) : List PyData := rs.map fun r => .tuple [.int r.1, .int r.2]
theorem dp_ints {K : PySem.W.Frag} {H : Hp} : ∀ ns : List Int, DpAll K H (ns.map V.int) (dInts ns)
  | [] => .nil
  | n :: ns => .cons (.int n) (dp_ints ns)
theorem dp_pairs {K : PySem.W.Frag} {H : Hp} : ∀ {xs : List V} {rs : List (Int × Int)}, PairsAt H xs rs → DpAll K H xs (dPairs rs)
  | [], [], _ => .nil
  | x :: xs, r :: rs, ⟨⟨p, h1, h2⟩, h3⟩ => by
    subst h1
    exact .cons (.tup (SqT.of h2) (.cons (.int _) (.cons (.int _) .nil))) (dp_pairs h3)
  | [], _ :: _, h => h.elim
  | _ :: _, [], h => h.elim
theorem lay_ints : ∀ ns : List Int, PyData.canLayAll0 (dInts ns) = true
  | [] => rfl
  | n :: ns => by
    show (PyData.canLay0 (.int n) && PyData.canLayAll0 (dInts ns)) = true
    rw [lay_ints ns]
    simp only [PyData.canLay0, Bool.and_true]
theorem lay_pairs : ∀ rs : List (Int × Int), PyData.canLayAll0 (dPairs rs) = true
  | [] => rfl
  | r :: rs => by
    show (PyData.canLay0 (.tuple [.int r.1, .int r.2]) && PyData.canLayAll0 (dPairs rs)) = true
    rw [lay_pairs rs]
    simp only [PyData.canLay0, PyData.canLayAll0, Bool.and_true]
theorem depth_pairs : ∀ rs : List (Int × Int), PyData.depthAll (dPairs rs) ≤ 3
  | [] => Nat.zero_le _
  | r :: rs => by
    have h := depth_pairs rs
    show max (PyData.depth (.tuple [.int r.1, .int r.2])) (PyData.depthAll (dPairs rs)) ≤ 3
    simp only [PyData.depth, PyData.depthAll]
    omega
theorem shaped_of {d : PyData} (h1 : d.canLay0 = true) (h2 : d.depth ≤ 64) : SeqAt.shaped d = true := by
  unfold SeqAt.shaped
  rw [h1, decide_eq_true h2]
  rfl
theorem shaped_lst (ns : List Int) : SeqAt.shaped (.list (dInts ns)) = true :=
  shaped_of (by simp only [PyData.canLay0, lay_ints]) (by have := KG.depth_all ns; show PyData.depth (.list (ns.map PyData.int)) ≤ 64; simp only [PyData.depth]; omega)
theorem shaped_tup (ns : List Int) : SeqAt.shaped (.tuple (dInts ns)) = true :=
  shaped_of (by simp only [PyData.canLay0, lay_ints]) (by have := KG.depth_all ns; show PyData.depth (.tuple (ns.map PyData.int)) ≤ 64; simp only [PyData.depth]; omega)
theorem shaped_prs (rs : List (Int × Int)) : SeqAt.shaped (.list (dPairs rs)) = true :=
  shaped_of (by simp only [PyData.canLay0, lay_pairs]) (by have := depth_pairs rs; simp only [PyData.depth]; omega)
theorem eqv_same {d : PyData} (h : SeqAt.shaped d = true) : PyData.eqv d d = true := by
  refine SeqAt.eqv_refl d ?_
  unfold SeqAt.shaped at h
  rw [Bool.and_eq_true] at h
  exact h.1
/-- what repr asks of data -/
structure Nice (d : PyData) : Prop where
  show' : d.showable = true
  dict : d.hasDict = false
  depth : d.depth ≤ 10
  fits : d.shown.length ≤ sizeLine
theorem nice_lst {ns : List Int} (h : ∀ n ∈ ns, n.natAbs < 2 ^ 39) (hl : ns.length ≤ 2000) : Nice (.list (dInts ns)) :=
  ⟨by simp only [PyData.showable]; exact KG.show_all ns fun m hm => Nat.lt_trans (h m hm) (by decide), by simp only [PyData.hasDict]; exact KG.nodict_all ns,
    by have := KG.depth_all ns; show PyData.depth (.list (ns.map PyData.int)) ≤ 10; simp only [PyData.depth]; omega, KG.repr_fits h hl⟩
theorem nice_tup {ns : List Int} (h : ∀ n ∈ ns, n.natAbs < 2 ^ 39) (hl : ns.length ≤ 2000) : Nice (.tuple (dInts ns)) :=
  ⟨by simp only [PyData.showable]; exact KG.show_all ns fun m hm => Nat.lt_trans (h m hm) (by decide), by simp only [PyData.hasDict]; exact KG.nodict_all ns,
    by have := KG.depth_all ns; show PyData.depth (.tuple (ns.map PyData.int)) ≤ 10; simp only [PyData.depth]; omega, by
      refine PyData.shown_fits (B := 13) (by decide) (by decide) ?_ ?_
      · simp only [PyData.leavesShort]
        exact KG.leaves_all ns fun n hn => Nat.lt_trans (h n hn) (by decide)
      · have := KG.weight_all ns h
        show PyData.weight (.tuple (ns.map PyData.int)) ≤ _
        simp only [PyData.weight]
        omega⟩
theorem leaf_int {a : Int} (h : a.natAbs < 2 ^ 39) : PyData.leavesShort 13 (.int a) = true := by
  have := KG.leaves_all [a] fun n hn => by rw [List.mem_singleton.mp hn]; exact Nat.lt_trans h (by decide)
  simpa only [List.map_cons, List.map_nil, PyData.leavesShortAll, Bool.and_true] using this
theorem show_int {a : Int} (h : a.natAbs < 2 ^ 39) : PyData.showable (.int a) = true := by
  have := KG.show_all [a] fun n hn => by rw [List.mem_singleton.mp hn]; exact Nat.lt_trans h (by decide)
  simpa only [List.map_cons, List.map_nil, PyData.showableAll, Bool.and_true] using this
theorem weight_int {a : Int} (h : a.natAbs < 2 ^ 39) : PyData.weight (.int a) + 1 ≤ 60 := by
  have := KG.weight_all [a] fun n hn => by rw [List.mem_singleton.mp hn]; exact h
  simp only [List.map_cons, List.map_nil, PyData.weightAll, List.length_singleton] at this
  omega
theorem pairs_show : ∀ rs : List (Int × Int), (∀ r ∈ rs, r.1.natAbs < 2 ^ 39 ∧ r.2.natAbs < 2 ^ 39) → PyData.showableAll (dPairs rs) = true
  | [], _ => rfl
  | r :: rs, h => by
    have h1 := h r List.mem_cons_self
    show (PyData.showable (.tuple [.int r.1, .int r.2]) && PyData.showableAll (dPairs rs)) = true
    rw [pairs_show rs fun x hx => h x (List.mem_cons_of_mem _ hx)]
    have e1 := show_int h1.1
    have e2 := show_int h1.2
    simp only [PyData.showable, PyData.showableAll] at e1 e2 ⊢
    rw [e1, e2]
    rfl
theorem pairs_dict : ∀ rs : List (Int × Int), PyData.hasDictAll (dPairs rs) = false
  | [] => rfl
  | r :: rs => by
    show (PyData.hasDict (.tuple [.int r.1, .int r.2]) || PyData.hasDictAll (dPairs rs)) = false
    rw [pairs_dict rs]
    simp only [PyData.hasDict, PyData.hasDictAll, Bool.or_self]
theorem pairs_leaves : ∀ rs : List (Int × Int), (∀ r ∈ rs, r.1.natAbs < 2 ^ 39 ∧ r.2.natAbs < 2 ^ 39) → PyData.leavesShortAll 13 (dPairs rs) = true
  | [], _ => rfl
  | r :: rs, h => by
    have h1 := h r List.mem_cons_self
    show (PyData.leavesShort 13 (.tuple [.int r.1, .int r.2]) && PyData.leavesShortAll 13 (dPairs rs)) = true
    rw [pairs_leaves rs fun x hx => h x (List.mem_cons_of_mem _ hx)]
    have e : PyData.leavesShort 13 (.tuple [.int r.1, .int r.2]) = PyData.leavesShortAll 13 [.int r.1, .int r.2] := by simp only [PyData.leavesShort]
    have e' : PyData.leavesShortAll 13 [.int r.1, .int r.2] = (PyData.leavesShort 13 (.int r.1) && (PyData.leavesShort 13 (.int r.2) && true)) := by simp only [PyData.leavesShortAll]
    rw [e, e', leaf_int h1.1, leaf_int h1.2]
    rfl
theorem pairs_weight : ∀ rs : List (Int × Int), (∀ r ∈ rs, r.1.natAbs < 2 ^ 39 ∧ r.2.natAbs < 2 ^ 39) → PyData.weightAll (dPairs rs) ≤ 130 * rs.length
  | [], _ => Nat.le_refl _
  | r :: rs, h => by
    have h1 := h r List.mem_cons_self
    have h2 := pairs_weight rs fun x hx => h x (List.mem_cons_of_mem _ hx)
    have w1 := weight_int h1.1
    have w2 := weight_int h1.2
    have e : PyData.weightAll (dPairs (r :: rs)) = PyData.weight (.tuple [.int r.1, .int r.2]) + 1 + PyData.weightAll (dPairs rs) := by
      show PyData.weightAll (_ :: _) = _
      simp only [PyData.weightAll]
      rfl
    have e2 : PyData.weight (.tuple [.int r.1, .int r.2]) = PyData.weight (.int r.1) + 1 + (PyData.weight (.int r.2) + 1 + 0) := by simp only [PyData.weight, PyData.weightAll]
    rw [e, e2, List.length_cons]
    omega
theorem nice_prs {rs : List (Int × Int)} (h : ∀ r ∈ rs, r.1.natAbs < 2 ^ 39 ∧ r.2.natAbs < 2 ^ 39) (hl : rs.length ≤ 2000) : Nice (.list (dPairs rs)) :=
  ⟨by simp only [PyData.showable]; exact pairs_show rs h, by simp only [PyData.hasDict]; exact pairs_dict rs, by have := depth_pairs rs; simp only [PyData.depth]; omega, by
    refine PyData.shown_fits (B := 13) (by decide) (by decide) ?_ ?_
    · simp only [PyData.leavesShort]
      exact pairs_leaves rs h
    · have := pairs_weight rs h
      simp only [PyData.weight]
      omega⟩
section
variable {X : Cx}
/-- repr of data at an address, while no repr is under way -/
def rReprD (K : PySem.W.Frag) : List V → Hp → VK → Prop := fun vs H Q => ∃ (a : Addr) (d : PyData), vs = [V.ref a] ∧ Dp K H (.ref a) d ∧ Nice d ∧ Q (.str d.shown) H
theorem cr_reprD (hg : X.A.guards = some []) (hu : X.A.units + 100 < cLine) : CallR X (.builtin "repr") (rReprD X.K) := by
  intro pins s σ H vs us Q I r h
  obtain ⟨a, d, rfl, hd, nc, q⟩ := h
  rw [Vals.ref1 r]
  obtain ⟨as, rd⟩ := Dp.reads I d (.ref a) (.ref a) hd rfl
  refine repr_of_reads' rd nc.show' (PyData.noDict_hsm nc.dict) hg (by have := nc.depth; omega) (fun _ _ e => e) (fun g u tk k => ?_) nc.fits
  exact ⟨.str d.shown, H, I.kept k, ⟨u, rfl⟩, q⟩
theorem cr_reprB : CallR X (.builtin "repr") (fun vs H Q => ∃ b : Bool, vs = [V.bl b] ∧ Q (.str (if b = true then "True" else "False")) H) := by
  intro pins s σ H vs us Q I r h
  obtain ⟨b, rfl, q⟩ := h
  obtain ⟨u, rfl, ru⟩ := vals1 r
  cases ru
  exact PySem.P.repr_of_bool ⟨.str _, H, I.tok _, ⟨_, rfl⟩, q⟩
end
section
variable {K : PySem.W.Frag} {a b : Addr} {xs ys : List V}
theorem walk_tups {n : Nat} (hn : n = min xs.length ys.length) : Walk (RZ.ItzT K a b) n (fun H => SqT K H a xs ∧ SqT K H b ys) (YPair (fun i => xs[i]?) (fun i => ys[i]?)) := by
  refine ⟨fun i H hi q => ⟨xs, ys, xs[i]'(by omega), ys[i]'(by omega), q.1, q.2, List.getElem?_eq_getElem (by omega), List.getElem?_eq_getElem (by omega)⟩, fun H q => ⟨xs, ys, q.1, q.2, by omega⟩, fun i H v H' _ q y => ?_⟩
  obtain ⟨T, x, z, h1, h2, h3, h4, h5⟩ := y
  exact ⟨T, x, z, h1, h2, h3, h4 xs q.1, h5 ys q.2⟩
end
/-- two promises of one def -/
theorem both {P : Program} {w : World} {K : PySem.W.Frag} {mg : Str → Option Value} {base : Heap} {CX : CXT} {k : Nat} {f : Addr} {fd : FuncData} {ps : List Str} {sp sp' : Sp}
    (F : FnOk P w K mg base CX k f fd ps sp) (G : FnOk P w K mg base CX k f fd ps sp') : FnOk P w K mg base CX k f fd ps (fun vs H Q E => sp vs H Q E ∨ sp' vs H Q E) :=
  ⟨fun vs H Q E h => h.elim (F.len vs H Q E) (G.len vs H Q E), fun A outer s H args us vs Q E hr e0 hb r h => h.elim (F.run A outer s H args us vs Q E hr e0 hb r) (G.run A outer s H args us vs Q E hr e0 hb r)⟩
end PH

namespace PH
open PySem PySem.Spec PyProof.Rows L2
theorem small22000 {n : Nat} (h : n ≤ 22000) : n < sizeLine := Nat.lt_of_le_of_lt h (by decide)
end PH
namespace KA
open PySem PySem.Spec PyProof.Rows L2
def topS (i : Nat) : Stmt := PySem.Challenge.pw_wearswings_k07_texts_of_counts.main.body.getD i (.Pass ⟨0, 0, 0, 0⟩)
end KA
namespace KD
open PySem PySem.Spec PyProof.Rows L2 KA
abbrev sFeed : Stmt := topS 32
abbrev sTake : Stmt := topS 33
abbrev sPick : Stmt := topS 34
theorem scFeed : FnScope ["script", "k", "cell", "digits", "state"] ["script", "k"] (defScope sFeed) := ⟨rfl, rfl, rfl, by decide +kernel, rfl, by decide +kernel, by decide +kernel⟩
theorem scTake : FnScope ["feed", "many", "digit"] ["feed", "many"] (defScope sTake) := ⟨rfl, rfl, rfl, by decide +kernel, rfl, by decide +kernel, by decide +kernel⟩
theorem scPick : FnScope ["feed", "some"] ["feed", "some"] (defScope sPick) := ⟨rfl, rfl, rfl, by decide +kernel, rfl, by decide +kernel, by decide +kernel⟩
/-- a feed stands at p -/
def FeedAt (H : Hp) (p : Addr) : Prop := ∃ d st : Int, 0 ≤ d ∧ 0 ≤ st ∧ st < 2305843009213693951 ∧ H p = some (.lst [.int d, .int st])
/-- all that was tracked is as it was, but what stands at f -/
def Ch (f : Addr) (H H' : Hp) : Prop := ∀ b o, b ≠ f → H b = some o → H' b = some o
theorem Ch.refl (f : Addr) (H : Hp) : Ch f H H := fun _ _ _ e => e
theorem Ch.trans {f : Addr} {H H1 H2 : Hp} (a : Ch f H H1) (b : Ch f H1 H2) : Ch f H H2 := fun c o n e => b c o n (a c o n e)
theorem Ch.of_same {f : Addr} {H H' : Hp} (s : Same H H') : Ch f H H' := fun c o _ e => s c o e
theorem Ch.put {f : Addr} {H : Hp} {o : HO} : Ch f H (upd H f o) := fun b x n e => by rw [upd_ne n]; exact e
theorem Ch.new {f p : Addr} {H : Hp} {o : HO} (h : H p = none) : Ch f H (upd H p o) := .of_same (same_new h)
theorem Ch.again {f p : Addr} {H0 H : Hp} {o : HO} (h : H0 p = none) (c : Ch f H0 H) : Ch f H0 (upd H p o) := fun b x n e => by
  rw [upd_ne (ne_of_none e h)]
  exact c b x n e
theorem Ch.free {f p : Addr} {H H' : Hp} (c : Ch f H H') (n : p ≠ f) (h : H' p = none) : H p = none := by
  cases e : H p with
  | none => rfl
  | some o =>
    rw [c p o n e] at h
    cases h
theorem Ch.seq {K : PySem.W.Frag} {f : Addr} {H H' : Hp} {a : Addr} {xs : List V} (c : Ch f H H') (n : a ≠ f) (h : SqL K H a xs) : SqL K H' a xs := by
  rcases h with (h | ⟨o, h⟩) | h
  · exact .inl (.inl (c _ _ n h))
  · exact .inl (.inr ⟨o, c _ _ n h⟩)
  · exact .inr h
/-- what stood ahead of the feed is as it was -/
theorem Ch.old {f : Addr} {H0 H H' : Hp} (c : Ch f H H') (hf : H0 f = none) (s : Same H0 H) : Same H0 H' := fun b o e => c b o (ne_of_none e hf) (s b o e)
theorem FeedAt.ne {H : Hp} {f p : Addr} (h : FeedAt H f) (n : H p = none) : p ≠ f := by
  obtain ⟨d, st, _, _, _, e⟩ := h
  exact fun z => by rw [z, e] at n; cases n
theorem FeedAt.upd {H : Hp} {f p : Addr} {o : HO} (h : FeedAt H f) (n : p ≠ f) : FeedAt (upd H p o) f := by
  obtain ⟨d, st, h1, h2, h3, e⟩ := h
  exact ⟨d, st, h1, h2, h3, by rw [upd_ne n.symm]; exact e⟩
theorem FeedAt.same {H H' : Hp} {f : Addr} (h : FeedAt H f) (s : Same H H') : FeedAt H' f := by
  obtain ⟨d, st, h1, h2, h3, e⟩ := h
  exact ⟨d, st, h1, h2, h3, s _ _ e⟩
section
variable {P : Program} {w : World} {K : PySem.W.Frag} {mg : Str → Option Value} {base : Heap}
def spFeed (K : PySem.W.Frag) : Sp := fun vs H Q _ => ∃ (a : Addr) (ns : List Int) (k : Int), vs = [.ref a, .int k] ∧ SqL K H a (ns.map V.int) ∧ 0 ≤ k ∧ k ≤ 100 ∧
  ∀ H' p, Same H H' → H p = none → FeedAt H' p → Q (.ref p) H'
theorem ok_feed {f : Addr} {fd : FuncData} {k : Nat} (F : Fun K "_law_feed" "_law_feed" sFeed f fd) (ml : mg "len" = none) (mm : mg "max" = none) (ma : mg "abs" = none) : FnOk P w K mg base CX0 (k + 1) f fd ["script", "k"] (spFeed K) := by
  refine F.ok scFeed (fun vs H Q E h => ?_) (fun cdv A outer s H vs Q E hr h => ?_)
  · obtain ⟨a, ns, z, rfl, _⟩ := h
    rfl
  · obtain ⟨a, ns, z, rfl, hS, h0, h1, q⟩ := h
    refine ⟨_, pss_cons (ps_set (i := 2) scFeed.nd rfl (.inl rfl) (pe_ifExp (pt_cmpR op_lt (pv 1) (pe_callB call_len_seq (by rfl) ml PySem.boot_len (pa_cons (pv 0) pa_nil)) (nomark _)) (pe_ix ix_list (pv 0) (pv 1) (fun _ _ => rfl)) (pe_op op_add (pe_op op_mul pe_int (pv 1)) pe_int)))
      (pss_cons (ps_set (i := 3) scFeed.nd rfl (.inl rfl) (pe_callB (call_max2 rfl) (by rfl) mm (by decide +kernel) (pa_cons pe_int (pa_cons (pe_op op_sub (pe_callB call_abs (by rfl) ma (by decide +kernel) (pa_cons (pv 2) pa_nil)) (pe_op op_pow pe_int pe_int)) pa_nil))))
      (pss_cons (ps_set (i := 4) scFeed.nd rfl (.inl rfl) (pe_op op_mod (pe_op op_add (pe_op op_add (pe_op op_mul (pv 2) pe_int) (pe_op op_mul pe_int (pv 1))) pe_int) pe_int))
      (pss_one (ps_ret (pe_lst (pa_cons (pv 3) (pa_cons (pv 4) pa_nil))))))), ?_⟩
    refine ⟨.int z, rfl, .ref a, rfl, a, ns.map V.int, rfl, .inl hS, z, _, rfl, rfl, _, rfl, ite2 (fun e => ?_) (fun e => ?_)⟩
    · have hz : z < ((ns.map V.int).length : Nat) := of_decide_eq_true e
      rw [List.length_map] at hz
      obtain ⟨j, rfl⟩ : ∃ j : Nat, z = (j : Int) := ⟨z.toNat, by omega⟩
      have hj : j < ns.length := by omega
      have gj : (ns.map V.int)[j]? = some (.int ns[j]) := by rw [List.getElem?_map, List.getElem?_eq_getElem hj]; rfl
      refine ⟨.ref a, rfl, .int j, rfl, a, _, _, _, rfl, rfl, hS, atI_nat gj, ?_⟩
      refine ⟨_, rfl, _, rfl, 10, 18, rfl, rfl, ⟨by decide, by decide, by decide⟩, _, _, rfl, rfl, 0, _, rfl, ?_⟩
      refine ⟨_, rfl, _, _, rfl, rfl, .inr ⟨by decide, by decide⟩, .int _, rfl, 7919, _, rfl, rfl, .inl ⟨by decide, by decide⟩, _, _, rfl, rfl, _, _, rfl, rfl, _, _, rfl, rfl, by show (0 : Int) < 2305843009213693951; decide, ?_⟩
      refine ⟨_, rfl, _, rfl, by show 2 ≤ sizeLine; decide, fun p np => q _ p (same_new np) np ⟨_, _, ?_, Int.emod_nonneg _ (by decide), Int.emod_lt_of_pos _ (by decide), upd_same⟩⟩
      split <;> omega
    · refine ⟨.int z, rfl, 83, z, rfl, rfl, .inl ⟨by decide, by decide⟩, _, _, rfl, rfl, ?_⟩
      refine ⟨_, rfl, _, rfl, 10, 18, rfl, rfl, ⟨by decide, by decide, by decide⟩, _, _, rfl, rfl, 0, _, rfl, ?_⟩
      refine ⟨_, rfl, _, _, rfl, rfl, .inr ⟨by decide, by decide⟩, .int _, rfl, 7919, _, rfl, rfl, .inl ⟨by decide, by decide⟩, _, _, rfl, rfl, _, _, rfl, rfl, _, _, rfl, rfl, by show (0 : Int) < 2305843009213693951; decide, ?_⟩
      refine ⟨_, rfl, _, rfl, by show 2 ≤ sizeLine; decide, fun p np => q _ p (same_new np) np ⟨_, _, ?_, Int.emod_nonneg _ (by decide), Int.emod_lt_of_pos _ (by decide), upd_same⟩⟩
      split <;> omega
def spTake : Sp := fun vs H Q _ => ∃ (f : Addr) (m : Int), vs = [.ref f, .int m] ∧ 0 < m ∧ m < 2 ^ 64 ∧ FeedAt H f ∧ ∀ H' r, Ch f H H' → FeedAt H' f → 0 ≤ r → r < m → Q (.int r) H'
theorem ok_take {f : Addr} {fd : FuncData} {k : Nat} (F : Fun K "_law_take" "_law_take" sTake f fd) : FnOk P w K mg base CX0 (k + 1) f fd ["feed", "many"] spTake := by
  refine F.ok scTake (fun vs H Q E h => ?_) (fun cdv A outer s H vs Q E hr h => ?_)
  · obtain ⟨a, m, rfl, _⟩ := h
    rfl
  · obtain ⟨f, m, rfl, m0, m1, ⟨d, st, d0, t0, t1, hf⟩, q⟩ := h
    refine ⟨_, pss_cons (ps_if (pt_cmpR op_gt (pe_ix ix_list (pv 0) pe_int (fun _ _ => rfl)) pe_int (nomark _))
        (pss_cons (ps_set (i := 2) scTake.nd rfl (.inl rfl) (pe_op op_mod (pe_ix ix_list (pv 0) pe_int (fun _ _ => rfl)) (pv 1)))
          (pss_cons (ps_asg (pe_op op_fdivW (pe_ix ix_list (pv 0) pe_int (fun _ _ => rfl)) (pv 1)) (pg_sub (pv 0) pe_int set_list)) (pss_one (ps_ret (pv 2))))) pss_nil)
      (pss_cons (ps_asg (pe_op op_mod (pe_op op_add (pe_op op_mul (pe_ix ix_list (pv 0) pe_int (fun _ _ => rfl)) pe_int) pe_int) pe_int) (pg_sub (pv 0) pe_int set_list))
      (pss_one (ps_ret (pe_op op_mod (pe_op op_fdiv (pe_ix ix_list (pv 0) pe_int (fun _ _ => rfl)) pe_int) (pv 1))))), ?_⟩
    have a0 : atI [V.int d, V.int st] 0 = some (.int d) := rfl
    have a1 : atI [V.int d, V.int st] 1 = some (.int st) := rfl
    refine ⟨.ref f, rfl, f, _, 0, .int d, rfl, rfl, SqL.of hf, a0, d, 0, rfl, rfl, _, rfl, ite2 (fun e => ?_) (fun e => ?_)⟩
    · have hd : d > 0 := of_decide_eq_true e
      refine ⟨.ref f, rfl, f, _, 0, .int d, rfl, rfl, SqL.of hf, a0, .int m, rfl, d, m, rfl, rfl, m0, ?_⟩
      refine ⟨.ref f, rfl, f, _, 0, .int d, rfl, rfl, SqL.of hf, a0, .int m, rfl, d, m, rfl, rfl, wide_div (b := 64) m0 (by omega) (by decide) (by decide), ?_⟩
      refine ⟨.ref f, rfl, f, _, 0, 0, rfl, rfl, hf, rfl, .int (d % m), rfl, ?_⟩
      refine q _ _ Ch.put ⟨d / m, st, Int.ediv_nonneg d0 (by omega), t0, t1, upd_same⟩ (Int.emod_nonneg _ (by omega)) (Int.emod_lt_of_pos _ m0)
    · refine ⟨.ref f, rfl, f, _, 1, .int st, rfl, rfl, SqL.of hf, a1, st, 6364136223846793005, rfl, rfl, .inr ⟨by decide, by decide⟩, _, _, rfl, rfl, _, _, rfl, rfl, by show (0 : Int) < 2305843009213693951; decide, ?_⟩
      refine ⟨.ref f, rfl, f, _, 1, 1, rfl, rfl, hf, rfl, ?_⟩
      refine ⟨.ref f, rfl, f, _, 1, _, rfl, rfl, SqL.of upd_same, rfl, _, 65536, rfl, rfl, ⟨by decide, by decide⟩, .int m, rfl, _, m, rfl, rfl, m0, ?_⟩
      exact q _ _ Ch.put ⟨d, _, d0, Int.emod_nonneg _ (by decide), Int.emod_lt_of_pos _ (by decide), upd_same⟩ (Int.emod_nonneg _ (by omega)) (Int.emod_lt_of_pos _ m0)
def spPick (K : PySem.W.Frag) : Sp := fun vs H Q _ => ∃ (f c : Addr) (xs : List V), vs = [.ref f, .ref c] ∧ c ≠ f ∧ SqL K H c xs ∧ 0 < xs.length ∧ xs.length ≤ 1000 ∧ FeedAt H f ∧
  ∀ H' (j : Nat) v, xs[j]? = some v → Ch f H H' → FeedAt H' f → Q v H'
theorem ok_pick {f fT : Addr} {fd fdT : FuncData} {k : Nat} (F : Fun K "_law_pick" "_law_pick" sPick f fd) (FT : Fun K "_law_take" "_law_take" sTake fT fdT) (gT : mg "_law_take" = some (.ref fT)) (bT : Binds K fdT ["feed", "many"] []) (ml : mg "len" = none) :
    FnOk P w K mg base CX0 (k + 2) f fd ["feed", "some"] (spPick K) := by
  have GT : FnOk P w K mg base CX0 (k + 1) fT fdT ["feed", "many"] spTake := ok_take FT
  refine F.ok scPick (fun vs H Q E h => ?_) (fun cdv A outer s H vs Q E hr h => ?_)
  · obtain ⟨a, m, xs, rfl, _⟩ := h
    rfl
  · obtain ⟨f, c, xs, rfl, ncf, hS, l0, l1, hf, q⟩ := h
    refine ⟨_, pss_one (ps_ret (pe_ix ix_list (pv 1) (pe_call GT hr (by rfl) gT FT.kp bT .nil pass0 (pa_cons (pv 0) (pa_cons (pe_callB call_len_seq (by rfl) ml PySem.boot_len (pa_cons (pv 1) pa_nil)) pa_nil))) (fun _ _ => rfl))), ?_⟩
    refine ⟨.ref c, rfl, .ref f, rfl, .ref c, rfl, c, xs, rfl, .inl hS, f, _, rfl, by omega, by omega, hf, fun H' r ch fe r0 r1 => ?_⟩
    obtain ⟨j, rfl⟩ : ∃ j : Nat, r = (j : Int) := ⟨r.toNat, by omega⟩
    have hj : j < xs.length := by omega
    exact ⟨c, xs, _, xs[j], rfl, rfl, ch.seq ncf hS, atI_nat (List.getElem?_eq_getElem hj), q H' j _ (List.getElem?_eq_getElem hj) ch fe⟩
end
end KD
namespace KL
open PySem PySem.Spec PyProof.Rows L2 KA KD
abbrev sLoad : Stmt := topS 35
theorem scLoad : FnScope ["feed", "most", "size", "way", "few", "turn", "middle", "step", "found"] ["feed", "most"] (defScope sLoad) := ⟨rfl, rfl, rfl, by decide +kernel, rfl, by decide +kernel, by decide +kernel⟩
theorem small100 {n : Nat} (h : n ≤ 100) : n < sizeLine := Nat.lt_of_le_of_lt h (by decide)
/-- a list of i small ints stands at D, the rest is as it was -/
def Grown (f D : Addr) (H0 : Hp) (i : Nat) (H : Hp) : Prop := Ch f H0 H ∧ FeedAt H f ∧ ∃ ns : List Int, ns.length = i ∧ (∀ n ∈ ns, n.natAbs < 1000000001) ∧ H D = some (.lst (ns.map V.int))
theorem Grown.start {f D : Addr} {H0 H : Hp} (c : Ch f H0 H) (fe : FeedAt H f) (n0 : H0 D = none) (nf : D ≠ f) : Grown f D H0 0 (upd H D (.lst [])) :=
  ⟨Ch.again n0 c, fe.upd nf, [], rfl, fun _ z => (List.not_mem_nil z).elim, upd_same⟩
theorem Grown.turn {f D : Addr} {H0 H : Hp} {i : Nat} (g : Grown f D H0 i H) (n0 : H0 D = none) (nf : D ≠ f) (hi : i ≤ 100) {H1 : Hp} (c : Ch f H H1) (fe : FeedAt H1 f) {r : Int} (hr : r.natAbs < 1000000001) :
    ∃ acc, H1 D = some (.lst acc) ∧ acc.length < sizeLine ∧ Grown f D H0 (i + 1) (upd H1 D (.lst (acc ++ [.int r]))) := by
  obtain ⟨c0, _, ns, hl, hb, e⟩ := g
  refine ⟨ns.map V.int, c _ _ nf e, by rw [List.length_map]; exact small100 (by omega), Ch.again n0 (c0.trans c), fe.upd nf, ns ++ [r], by rw [List.length_append, List.length_singleton, hl], fun n hn => ?_, ?_⟩
  · rcases List.mem_append.mp hn with z | z
    · exact hb n z
    · rw [List.mem_singleton.mp z]; exact hr
  · rw [upd_same, List.map_append]
    rfl
theorem four {a b c d : Int} {j : Nat} {v : V} (h : [V.int a, V.int b, V.int c, V.int d][j]? = some v) : v = .int a ∨ v = .int b ∨ v = .int c ∨ v = .int d := by
  match j, h with
  | 0, h => exact .inl (Option.some.inj h).symm
  | 1, h => exact .inr (.inl (Option.some.inj h).symm)
  | 2, h => exact .inr (.inr (.inl (Option.some.inj h).symm))
  | 3, h => exact .inr (.inr (.inr (Option.some.inj h).symm))
  | n + 4, h => simp at h
theorem three {a b c : Int} {j : Nat} {v : V} (h : [V.int a, V.int b, V.int c][j]? = some v) : v = .int a ∨ v = .int b ∨ v = .int c := by
  match j, h with
  | 0, h => exact .inl (Option.some.inj h).symm
  | 1, h => exact .inr (.inl (Option.some.inj h).symm)
  | 2, h => exact .inr (.inr (Option.some.inj h).symm)
  | n + 3, h => simp at h
section
variable {P : Program} {w : World} {K : PySem.W.Frag} {mg : Str → Option Value} {base : Heap}
def spLoad : Sp := fun vs H Q _ => ∃ (f : Addr) (most : Int), vs = [.ref f, .int most] ∧ 0 ≤ most ∧ most ≤ 99 ∧ FeedAt H f ∧
  ∀ H' p (ns : List Int), Ch f H H' → FeedAt H' f → H p = none → H' p = some (.lst (ns.map V.int)) → (ns.length : Int) ≤ most → (∀ n ∈ ns, n.natAbs < 1000000001) → Q (.ref p) H'
theorem ok_load {f fT fP : Addr} {fd fdT fdP : FuncData} {k : Nat} (F : Fun K "_law_load" "_law_load" sLoad f fd) (FT : Fun K "_law_take" "_law_take" sTake fT fdT) (gT : mg "_law_take" = some (.ref fT)) (bT : Binds K fdT ["feed", "many"] [])
    (FP : Fun K "_law_pick" "_law_pick" sPick fP fdP) (gP : mg "_law_pick" = some (.ref fP)) (bP : Binds K fdP ["feed", "some"] []) (ml : mg "len" = none) (mr : mg "range" = none) (mm : mg "min" = none) :
    FnOk P w K mg base CX0 (k + 3) f fd ["feed", "most"] spLoad := by
  have GT : FnOk P w K mg base CX0 (k + 1) fT fdT ["feed", "many"] spTake := ok_take FT
  have GP : FnOk P w K mg base CX0 (k + 2) fP fdP ["feed", "some"] (spPick K) := ok_pick FP FT gT bT ml
  refine F.ok scLoad (fun vs H Q E h => ?_) (fun cdv A outer s H vs Q E hr h => ?_)
  · obtain ⟨a, m, rfl, _⟩ := h
    rfl
  · obtain ⟨f, most, rfl, m0, m1, hf, q⟩ := h
    have hrT := hr.mono (Nat.le_succ (k + 1))
    refine ⟨_, pss_cons (ps_set (i := 2) scLoad.nd rfl (.inl rfl) (pe_call GT hrT (by rfl) gT FT.kp bT .nil pass0 (pa_cons (pv 0) (pa_cons (pe_op op_add (pv 1) pe_int) pa_nil))))
      (pss_cons (ps_set (i := 3) scLoad.nd rfl (.inl rfl) (pe_call GT hrT (by rfl) gT FT.kp bT .nil pass0 (pa_cons (pv 0) (pa_cons pe_int pa_nil))))
      (pss_cons (ps_if (pt_cmpR op_lt (pv 3) pe_int (nomark _))
        (pss_cons (ps_set (i := 4) scLoad.nd rfl (.inr rfl) (pe_call GP hr (by rfl) gP FP.kp bP .nil pass0 (pa_cons (pv 0) (pa_cons (pe_lst (pa_cons pe_int (pa_cons pe_int (pa_cons pe_int (pa_cons pe_int pa_nil))))) pa_nil))))
          (pss_one (ps_ret (pe_lc (own := [("turn", 5)]) (g := gName 5) rfl scLoad.nd (pi_range1 rfl mr (pa_cons (pv 2) pa_nil)) (blkOk_by (own := [("turn", 5)]) (N := ["feed", "most", "size", "way", "few", "turn", "middle", "step", "found"]) (sc := defScope sLoad) (by decide +kernel))
            (fun _ _ _ _ _ => pg_name (i := 5) scLoad.nd rfl (Or.inl rfl) (Or.inr rfl)) (fun _ _ _ _ _ => pts_nil)
            (fun _ _ _ _ _ => pe_call GT hrT (by rfl) gT FT.kp bT .nil pass0 (pa_cons (pv 0) (pa_cons (pv 4) pa_nil))))))) pss_nil)
      (pss_cons (ps_if (pt_cmpR op_eq (pv 3) pe_int (nomark _))
          (pss_one (ps_ret (pe_lc (own := [("turn", 5)]) (g := gName 5) rfl scLoad.nd (pi_range1 rfl mr (pa_cons (pv 2) pa_nil)) (blkOk_by (own := [("turn", 5)]) (N := ["feed", "most", "size", "way", "few", "turn", "middle", "step", "found"]) (sc := defScope sLoad) (by decide +kernel))
            (fun _ _ _ _ _ => pg_name (i := 5) scLoad.nd rfl (Or.inl rfl) (Or.inr rfl)) (fun _ _ _ _ _ => pts_nil)
            (fun _ _ _ _ _ => pe_op op_sub (pe_call GT hrT (by rfl) gT FT.kp bT .nil pass0 (pa_cons (pv 0) (pa_cons (pe_op op_add (pe_op op_mul pe_int (pe_op op_pow pe_int pe_int)) pe_int) pa_nil))) (pe_op op_pow pe_int pe_int))))) pss_nil)
      (pss_cons (ps_if (pt_cmpR op_eq (pv 3) pe_int (nomark _))
          (pss_cons (ps_par3 (i := 6) (j := 7) (l := 8) (by rfl) scLoad.nd rfl rfl rfl (by decide) (by decide) (by decide) rfl rfl rfl
              (pa_cons (pe_call GT hrT (by rfl) gT FT.kp bT .nil pass0 (pa_cons (pv 0) (pa_cons (pe_op op_add (pv 2) pe_int) pa_nil)))
                (pa_cons (pe_call GP hr (by rfl) gP FP.kp bP .nil pass0 (pa_cons (pv 0) (pa_cons (pe_lst (pa_cons pe_int (pa_cons pe_int (pa_cons (pe_un un_neg pe_int) pa_nil)))) pa_nil)))
                  (pa_cons (pe_lst pa_nil) pa_nil))) (by rfl))
          (pss_cons (ps_for PassesOwn.never rfl (pi_range1 rfl mr (pa_cons (pv 2) pa_nil)) (pg_name (i := 5) scLoad.nd rfl (.inl rfl))
              (pss_cons (ps_expr (pe_bm PySem.F.plainAttrs_list PySem.F.slot_list_append PySem.F.type_list_append mt_append (pv 8) (pa_cons (pe_op op_mul (pv 7) (pe_callB (call_min2 rfl) (by rfl) mm (by decide +kernel) (pa_cons (pv 5) (pa_cons (pv 6) pa_nil)))) pa_nil)))
                (pss_one (ps_set (i := 7) scLoad.nd rfl (.inl rfl) (pe_op op_sub pe_int (pv 7))))))
            (pss_one (ps_ret (pv 8))))) pss_nil)
      (pss_cons (ps_if (pt_cmpR op_eq (pv 3) pe_int (nomark _))
          (pss_one (ps_ret (pe_lc (own := [("turn", 5)]) (g := gName 5) rfl scLoad.nd (pi_range1 rfl mr (pa_cons (pv 2) pa_nil)) (blkOk_by (own := [("turn", 5)]) (N := ["feed", "most", "size", "way", "few", "turn", "middle", "step", "found"]) (sc := defScope sLoad) (by decide +kernel))
            (fun _ _ _ _ _ => pg_name (i := 5) scLoad.nd rfl (Or.inl rfl) (Or.inr rfl)) (fun _ _ _ _ _ => pts_nil)
            (fun _ _ _ _ _ => pe_op op_sub (pe_op op_fdiv (pv 5) pe_int) (pe_call GT hrT (by rfl) gT FT.kp bT .nil pass0 (pa_cons (pv 0) (pa_cons pe_int pa_nil))))))) pss_nil)
      (pss_one (ps_ret (pe_lc (own := [("turn", 5)]) (g := gName 5) rfl scLoad.nd (pi_range1 rfl mr (pa_cons (pv 2) pa_nil)) (blkOk_by (own := [("turn", 5)]) (N := ["feed", "most", "size", "way", "few", "turn", "middle", "step", "found"]) (sc := defScope sLoad) (by decide +kernel))
            (fun _ _ _ _ _ => pg_name (i := 5) scLoad.nd rfl (Or.inl rfl) (Or.inr rfl)) (fun _ _ _ _ _ => pts_nil)
            (fun _ _ _ _ _ => pe_call GP hr (by rfl) gP FP.kp bP .nil pass0 (pa_cons (pv 0) (pa_cons (pe_lst (pa_cons pe_int (pa_cons (pe_un un_neg pe_int) (pa_cons pe_int (pa_cons pe_int pa_nil))))) pa_nil))))))))))), ?_⟩
    -- size
    refine ⟨.ref f, rfl, .int most, rfl, most, 1, rfl, rfl, f, _, rfl, by omega, by omega, hf, fun H1 sz c1 f1 z0 z1 => ?_⟩
    -- way
    refine ⟨.ref f, rfl, f, _, rfl, by decide, by decide, f1, fun H2 way c2 f2 w0 w1 => ?_⟩
    have cc := c1.trans c2
    obtain ⟨n, rfl⟩ : ∃ n : Nat, sz = (n : Int) := ⟨sz.toNat, by omega⟩
    have hn : n ≤ 100 := by omega
    have b62 : -(2 ^ 62) ≤ ((n : Nat) : Int) ∧ ((n : Nat) : Int) < 2 ^ 62 := ⟨by omega, by omega⟩
    have fin : ∀ (D : Addr) (H' : Hp), H D = none → Grown f D H n H' → Q (.ref D) H' := fun D H' n0 g => by
      obtain ⟨c, fe, ns, hl, hb, e⟩ := g
      exact q H' D ns c fe n0 e (by omega) hb
    refine ⟨.int way, rfl, way, 3, rfl, rfl, _, rfl, ite2 (fun _ => ?_) (fun _ => ?_)⟩
    · -- few values
      refine ⟨.ref f, rfl, by decide, fun l nl => ?_⟩
      have nlf := f2.ne nl
      refine ⟨f, l, _, rfl, nlf, SqL.of upd_same, by decide, by decide, f2.upd nlf, fun H3 j v hj c3 f3 => ?_⟩
      have c03 : Ch f H H3 := (Ch.again (cc.free nlf nl) cc).trans c3
      have hv : ∃ few : Int, v = .int few ∧ 0 < few ∧ few < 10 := by
        rcases four hj with e | e | e | e <;> exact ⟨_, e, by decide, by decide⟩
      obtain ⟨few, rfl, p0, p1⟩ := hv
      refine ⟨.int (n : Int), rfl, (n : Int), rfl, b62.1, b62.2, fun D nD => ?_⟩
      have nDf := f3.ne nD
      have n0 := c03.free nDf nD
      refine lc_range (lo := 0) (n := ((n : Int)).toNat) (fun i H' => Grown f D H i H') (Grown.start c03 f3 n0 nDf) (fun i H' hi g => ?_) (fun H' g => fin D H' n0 g)
      refine ⟨rfl, ?_⟩
      refine iteT (B := True) ?_
      refine ⟨.ref f, rfl, .int few, rfl, f, few, rfl, p0, by omega, g.2.1, fun H4 r c4 f4 r0 r1 => g.turn n0 nDf (by omega) c4 f4 (by omega)⟩
    refine ⟨.int way, rfl, rfl, _, rfl, ite2 (fun _ => ?_) (fun _ => ?_)⟩
    · -- great values
      refine ⟨.int (n : Int), rfl, (n : Int), rfl, b62.1, b62.2, fun D nD => ?_⟩
      have nDf := f2.ne nD
      have n0 := cc.free nDf nD
      refine lc_range (lo := 0) (n := ((n : Int)).toNat) (fun i H' => Grown f D H i H') (Grown.start cc f2 n0 nDf) (fun i H' hi g => ?_) (fun H' g => fin D H' n0 g)
      refine ⟨rfl, ?_⟩
      refine iteT (B := True) ?_
      refine ⟨.ref f, rfl, 10, 9, rfl, rfl, ⟨by decide, by decide, by decide⟩, 2, _, rfl, rfl, .inl ⟨by decide, by decide⟩, _, 1, rfl, rfl, f, _, rfl, by decide, by decide, g.2.1, fun H4 r c4 f4 r0 r1 => ?_⟩
      refine ⟨10, 9, rfl, rfl, ⟨by decide, by decide, by decide⟩, r, _, rfl, rfl, g.turn n0 nDf (by omega) c4 f4 ?_⟩
      have e9 : (10 : Int) ^ (9 : Int).toNat = 1000000000 := by decide
      rw [e9] at r1 ⊢
      omega
    refine ⟨.int way, rfl, rfl, _, rfl, ite2 (fun _ => ?_) (fun _ => ?_)⟩
    · -- wider and narrower swings
      refine ⟨.ref f, rfl, .int (n : Int), rfl, (n : Int), 1, rfl, rfl, f, _, rfl, by omega, by omega, f2, fun H3 mid c3 f3 m0 m1 => ?_⟩
      have c03 := cc.trans c3
      refine ⟨.ref f, rfl, 1, rfl, by decide, fun l nl => ?_⟩
      have nlf := f3.ne nl
      refine ⟨f, l, _, rfl, nlf, SqL.of upd_same, by decide, by decide, f3.upd nlf, fun H4 j v hj c4 f4 => ?_⟩
      have c04 : Ch f H H4 := (Ch.again (c03.free nlf nl) c03).trans c4
      have hv : ∃ st : Int, v = .int st ∧ -2 ≤ st ∧ st ≤ 2 := by
        rcases three hj with e | e | e <;> exact ⟨_, e, by decide, by decide⟩
      obtain ⟨st, rfl, p0, p1⟩ := hv
      refine ⟨by decide, fun D nD => ?_⟩
      have nDf := f4.ne nD
      have n0 := c04.free nDf nD
      refine ⟨_, _, _, rfl, .int (n : Int), rfl, (n : Int), rfl, b62.1, b62.2, for_range (lo := 0) (n := ((n : Int)).toNat)
        (fun i σ H' => Grown f D H i H' ∧ ∃ (st : Int) (r5 : Option V), -2 ≤ st ∧ st ≤ 2 ∧ σ = [some (.ref f), some (.int most), some (.int (n : Int)), some (.int way), none, r5, some (.int mid), some (.int st), some (.ref D)]) ?_ ?_ ?_⟩
      · exact ⟨Grown.start c04 f4 n0 nDf, st, none, p0, p1, rfl⟩
      · rintro i σ H' hi ⟨g, st, r5, p0, p1, rfl⟩
        have hi2 : i < 101 := by omega
        obtain ⟨acc, e1, e2, e3⟩ := g.turn n0 nDf (by omega) (Ch.refl f H') g.2.1 (r := st * (if mid < (0 + (i : Int)) then mid else (0 + (i : Int)))) (by
          have hx : 0 ≤ (if mid < (0 + (i : Int)) then mid else (0 + (i : Int))) ∧ (if mid < (0 + (i : Int)) then mid else (0 + (i : Int))) ≤ 200 := by split <;> omega
          generalize (if mid < (0 + (i : Int)) then mid else (0 + (i : Int))) = x at hx
          have hst : st = -2 ∨ st = -1 ∨ st = 0 ∨ st = 1 ∨ st = 2 := by omega
          rcases hst with e | e | e | e | e <;> subst e <;> omega)
        refine ⟨.ref D, rfl, .inl ⟨rfl, _, SqL.of e1⟩, .int st, rfl, .int (0 + (i : Int)), rfl, .int mid, rfl, 0 + (i : Int), mid, rfl, st, _, rfl, rfl, .inl ⟨by omega, by omega⟩, D, acc, _, rfl, rfl, e1, e2, ?_⟩
        exact ⟨.int st, rfl, 0, st, rfl, rfl, e3, 0 - st, _, by omega, by omega, rfl⟩
      · rintro σ H' ⟨g, st, r5, _, _, rfl⟩
        exact ⟨.ref D, rfl, fin D H' n0 g⟩
    refine ⟨.int way, rfl, rfl, _, rfl, ite2 (fun _ => ?_) (fun _ => ?_)⟩
    · -- a climb
      refine ⟨.int (n : Int), rfl, (n : Int), rfl, b62.1, b62.2, fun D nD => ?_⟩
      have nDf := f2.ne nD
      have n0 := cc.free nDf nD
      refine lc_range (lo := 0) (n := ((n : Int)).toNat) (fun i H' => Grown f D H i H') (Grown.start cc f2 n0 nDf) (fun i H' hi g => ?_) (fun H' g => fin D H' n0 g)
      refine ⟨rfl, ?_⟩
      refine iteT (B := True) ?_
      refine ⟨.int (0 + (i : Int)), rfl, 0 + (i : Int), 2, rfl, rfl, ⟨by decide, by decide⟩, .ref f, rfl, f, _, rfl, by decide, by decide, g.2.1, fun H4 r c4 f4 r0 r1 => ?_⟩
      exact ⟨_, r, rfl, rfl, g.turn n0 nDf (by omega) c4 f4 (by omega)⟩
    · refine ⟨.int (n : Int), rfl, (n : Int), rfl, b62.1, b62.2, fun D nD => ?_⟩
      have nDf := f2.ne nD
      have n0 := cc.free nDf nD
      refine lc_range (lo := 0) (n := ((n : Int)).toNat) (fun i H' => Grown f D H i H') (Grown.start cc f2 n0 nDf) (fun i H' hi g => ?_) (fun H' g => fin D H' n0 g)
      refine ⟨rfl, ?_⟩
      refine iteT (B := True) ?_
      refine ⟨.ref f, rfl, 7, rfl, by decide, fun l nl => ?_⟩
      have nlf := g.2.1.ne nl
      refine ⟨f, l, _, rfl, nlf, SqL.of upd_same, by decide, by decide, g.2.1.upd nlf, fun H4 j v hj c4 f4 => ?_⟩
      have hv : ∃ r : Int, v = .int r ∧ r.natAbs < 1000000001 := by
        rcases four hj with e | e | e | e <;> exact ⟨_, e, by decide⟩
      obtain ⟨r, rfl, hr2⟩ := hv
      exact g.turn n0 nDf (by omega) ((Ch.new nl).trans c4) f4 hr2
end
end KL

/-! the program's turning points and swings -/
namespace PA
open PySem PySem.Spec PyProof.Rows L2 KA PH PM
abbrev sCont : Stmt := topS 8
abbrev sRng : Stmt := topS 9
abbrev sTP : Stmt := topS 10
abbrev sBtw : Stmt := topS 12
abbrev sLO : Stmt := topS 11
abbrev sSw : Stmt := topS 13
theorem scCont : FnScope ["outer", "inner"] ["outer", "inner"] (defScope sCont) := ⟨rfl, rfl, rfl, by decide +kernel, rfl, by decide +kernel, by decide +kernel⟩
theorem scRng : FnScope ["one", "other"] ["one", "other"] (defScope sRng) := ⟨rfl, rfl, rfl, by decide +kernel, rfl, by decide +kernel, by decide +kernel⟩
theorem scTP : FnScope ["load", "points", "reading"] ["load"] (defScope sTP) := ⟨rfl, rfl, rfl, by decide +kernel, rfl, by decide +kernel, by decide +kernel⟩
theorem scLO : FnScope ["points", "reading", "last"] ["points", "reading"] (defScope sLO) := ⟨rfl, rfl, rfl, by decide +kernel, rfl, by decide +kernel, by decide +kernel⟩
theorem scBtw : FnScope ["reading", "before", "after"] ["reading", "before", "after"] (defScope sBtw) := ⟨rfl, rfl, rfl, by decide +kernel, rfl, by decide +kernel, by decide +kernel⟩
theorem scSw : FnScope ["load", "points", "one", "other"] ["load"] (defScope sSw) := ⟨rfl, rfl, rfl, by decide +kernel, rfl, by decide +kernel, by decide +kernel⟩
section
variable {P : Program} {w : World} {K : PySem.W.Frag} {mg : Str → Option Value} {base : Heap}
def spCont (K : PySem.W.Frag) : Sp := fun vs H Q _ => ∃ (p q : Addr) (a b c d : Int), vs = [.ref p, .ref q] ∧ SqT K H p [.int a, .int b] ∧ SqT K H q [.int c, .int d] ∧ Q (.bl (decide (a ≤ c) && decide (d ≤ b))) H
theorem ok_Cont {f : Addr} {fd : FuncData} {k : Nat} (F : Fun K "contains" "contains" sCont f fd) : FnOk P w K mg base CX0 (k + 1) f fd ["outer", "inner"] (spCont K) := by
  refine F.ok scCont (fun vs H Q E h => ?_) (fun cdv A outer s H vs Q E hr h => ?_)
  · obtain ⟨p, q, a, b, c, d, rfl, _⟩ := h
    rfl
  · obtain ⟨p, q, a, b, c, d, rfl, h1, h2, hq⟩ := h
    refine ⟨_, pss_one (ps_ret (pe_and (pe_cmpR op_le (pe_ix ix_tup (pv 0) pe_int (fun _ _ => rfl)) (pe_ix ix_tup (pv 1) pe_int (fun _ _ => rfl)) (nomark _)) (pe_one (pe_cmpR op_le (pe_ix ix_tup (pv 1) pe_int (fun _ _ => rfl)) (pe_ix ix_tup (pv 0) pe_int (fun _ _ => rfl)) (nomark _))))), ?_⟩
    refine ⟨.ref p, rfl, p, _, 0, .int a, rfl, rfl, h1, rfl, .ref q, rfl, q, _, 0, .int c, rfl, rfl, h2, rfl, a, c, rfl, rfl, _, rfl, ?_⟩
    by_cases e : a ≤ c
    · rw [decide_eq_true e] at hq ⊢
      exact iteT ⟨.ref q, rfl, q, _, 1, .int d, rfl, rfl, h2, rfl, .ref p, rfl, p, _, 1, .int b, rfl, rfl, h1, rfl, d, b, rfl, rfl, hq⟩
    · rw [decide_eq_false e] at hq ⊢
      exact iteF hq
def spRng : Sp := fun vs H Q _ => ∃ (a b : Int), vs = [.int a, .int b] ∧ ∀ p, H p = none → Q (.ref p) (upd H p (.tup [.int (rg a b).1, .int (rg a b).2]))
theorem ok_Rng {f : Addr} {fd : FuncData} {k : Nat} (F : Fun K "range_of" "range_of" sRng f fd) (mn : mg "min" = none) (mx : mg "max" = none) : FnOk P w K mg base CX0 (k + 1) f fd ["one", "other"] spRng := by
  refine F.ok scRng (fun vs H Q E h => ?_) (fun cdv A outer s H vs Q E hr h => ?_)
  · obtain ⟨a, b, rfl, _⟩ := h
    rfl
  · obtain ⟨a, b, rfl, hq⟩ := h
    refine ⟨_, pss_one (ps_ret (pe_tup (pa_cons (pe_callB (call_min2 rfl) (by rfl) mn (by decide +kernel) (pa_cons (pv 0) (pa_cons (pv 1) pa_nil))) (pa_cons (pe_callB (call_max2 rfl) (by rfl) mx (by decide +kernel) (pa_cons (pv 0) (pa_cons (pv 1) pa_nil))) pa_nil)))), ?_⟩
    exact ⟨.int a, rfl, .int b, rfl, a, b, rfl, .int a, rfl, .int b, rfl, a, b, rfl, by show 2 ≤ sizeLine; decide, fun p np => hq p np⟩
def spBtw : Sp := fun vs H Q _ => ∃ (r b a : Int), vs = [.int r, .int b, .int a] ∧ Q (.bl (decide (Btw r b a))) H
theorem ok_btw {f : Addr} {fd : FuncData} {k : Nat} (F : Fun K "_lies_between" "_lies_between" sBtw f fd) : FnOk P w K mg base CX0 (k + 1) f fd ["reading", "before", "after"] spBtw := by
  refine F.ok scBtw (fun vs H Q E h => ?_) (fun cdv A outer s H vs Q E hr h => ?_)
  · obtain ⟨r, b, a, rfl, _⟩ := h
    rfl
  · obtain ⟨r, b, a, rfl, hq⟩ := h
    refine ⟨_, pss_one (ps_ret (pe_or (pe_chain op_lt op_lt (pv 1) (pv 0) (pv 2)) (pe_one (pe_chain op_lt op_lt (pv 2) (pv 0) (pv 1))))), ?_⟩
    refine ⟨.int b, rfl, .int r, rfl, b, r, rfl, rfl, _, rfl, ?_⟩
    have second : ¬ (b < r ∧ r < a) → tOrV (fun _ H Q => Q (.bl false) H) (tChain (fun x y H Q => ∃ i j, x = .int i ∧ y = .int j ∧ Q (.bl (decide (i < j))) H) (fun x y H Q => ∃ i j, x = .int i ∧ y = .int j ∧ Q (.bl (decide (i < j))) H) (tVar 2) (tVar 0) (tVar 1)) [some (.int r), some (.int b), some (.int a)] H Q := by
      intro hn
      refine ⟨false, rfl, iteF ⟨.int a, rfl, .int r, rfl, a, r, rfl, rfl, _, rfl, ?_⟩⟩
      by_cases e : a < r
      · rw [decide_eq_true e]
        refine iteT ⟨.int b, rfl, r, b, rfl, rfl, ?_⟩
        have e2 : decide (Btw r b a) = decide (r < b) := by rw [decide_eq_decide]; omega
        rw [e2] at hq
        exact hq
      · rw [decide_eq_false e]
        have e2 : decide (Btw r b a) = false := decide_eq_false (by omega)
        rw [e2] at hq
        exact iteF hq
    by_cases e : b < r
    · rw [decide_eq_true e]
      refine iteT ⟨.int a, rfl, r, a, rfl, rfl, _, rfl, ?_⟩
      by_cases e2 : r < a
      · rw [decide_eq_true e2]
        have e3 : decide (Btw r b a) = true := decide_eq_true (.inl ⟨e, e2⟩)
        rw [e3] at hq
        exact iteT hq
      · rw [decide_eq_false e2]
        obtain ⟨_, h1, h2⟩ := second (fun z => e2 z.2)
        cases h1
        exact h2
    · rw [decide_eq_false e]
      obtain ⟨_, h1, h2⟩ := second (fun z => e z.1)
      cases h1
      exact iteF ⟨false, rfl, h2⟩
end
end PA

/-! places, sorted pairs, the stack's turns -/
namespace RN
open PM RM
def takenAt (ps : List Int) (i : Nat) : Bool := match ps.drop i with
  | a :: b :: c :: d :: _ => decide (Taken a b c d)
  | _ => false
theorem taken_here {ps : List Int} {i : Nat} (h : takenAt ps i = true) : ∃ pre a b c d post, ps = pre ++ a :: b :: c :: d :: post ∧ pre.length = i ∧ Taken a b c d := by
  unfold takenAt at h
  split at h
  · rename_i a b c d post e
    refine ⟨ps.take i, a, b, c, d, post, by rw [← e, List.take_append_drop], ?_, of_decide_eq_true h⟩
    have : (ps.drop i).length = post.length + 4 := by rw [e]; simp
    rw [List.length_drop] at this
    rw [List.length_take]
    omega
  · cases h
theorem taken_get {ps : List Int} {i : Nat} {a b c d : Int} (h0 : ps[i]? = some a) (h1 : ps[i + 1]? = some b) (h2 : ps[i + 2]? = some c) (h3 : ps[i + 3]? = some d) : takenAt ps i = decide (Taken a b c d) := by
  have e : ∀ {j : Nat} {r : Int}, ps[j]? = some r → ps.drop j = r :: ps.drop (j + 1) := fun {j r} h => by
    obtain ⟨k1, k2⟩ := List.getElem?_eq_some_iff.mp h
    rw [List.drop_eq_getElem_cons k1, k2]
  unfold takenAt
  rw [e h0, e h1, e h2, e h3]
theorem taken_lt {ps : List Int} {i : Nat} (h : takenAt ps i = true) : i < ps.length - 3 := by
  obtain ⟨pre, a, b, c, d, post, e, hl, _⟩ := taken_here h
  rw [e]
  simp only [List.length_append, List.length_cons]
  omega
theorem step_at {ps q : List Int} {cy : Int × Int} (h : Step ps cy q) : ∃ i, takenAt ps i = true := by
  induction h with
  | here t => exact ⟨0, decide_eq_true t⟩
  | there _ ih =>
    obtain ⟨i, e⟩ := ih
    exact ⟨i + 1, e⟩
def plc (ps : List Int) : List Int := ((List.range (ps.length - 3)).filter (takenAt ps)).map fun (i : Nat) => (i : Int) + 1
theorem plc_mem {ps : List Int} {x : Int} (h : x ∈ plc ps) : ∃ i : Nat, x = (i : Int) + 1 ∧ takenAt ps i = true := by
  obtain ⟨i, hi, e⟩ := List.mem_map.mp h
  exact ⟨i, e.symm, (List.mem_filter.mp hi).2⟩
theorem nf_of_plc {ps : List Int} (h : plc ps = []) : NF ps := by
  intro c q s
  obtain ⟨i, e⟩ := step_at s
  have : (i : Int) + 1 ∈ plc ps := List.mem_map.mpr ⟨i, List.mem_filter.mpr ⟨List.mem_range.mpr (taken_lt e), e⟩, rfl⟩
  rw [h] at this
  cases this
theorem plc_of_nf {ps : List Int} (h : NF ps) : plc ps = [] := by
  cases e : plc ps with
  | nil => rfl
  | cons x l =>
    have hx : x ∈ plc ps := by rw [e]; exact List.mem_cons_self
    obtain ⟨i, _, t⟩ := plc_mem hx
    obtain ⟨pre, a, b, c, d, post, e2, _, tk⟩ := taken_here t
    rw [e2] at h
    exact absurd ((Step.here tk).prefix pre) (h _ _)
theorem Run.suffix {p q : List Int} {cs : List (Int × Int)} (h : Run p cs q) (l : List Int) : Run (p ++ l) cs (q ++ l) := by
  induction h with
  | nil p => exact .nil _
  | cons s _ ih => exact .cons (s.suffix l) ih
theorem Run.ends {p r : List Int} {cs : List (Int × Int)} (h : Run p cs r) : (cs = [] ∧ p = r) ∨ 2 ≤ r.length := by
  induction h with
  | nil p => exact .inl ⟨rfl, rfl⟩
  | @cons p q r c cs s h ih =>
    refine .inr ?_
    rcases ih with ⟨_, e⟩ | e
    · subst e
      have : ∀ {p q : List Int} {c : Int × Int}, Step p c q → 2 ≤ q.length := by
        intro p q c s
        induction s with
        | here _ => simp only [List.length_cons]; omega
        | there _ ih => simp only [List.length_cons]; omega
      exact this s
    · exact e
theorem tq_zig : ∀ (l : List Int) (b a : Int), ZZ (b :: a :: l) → tq b a l = a :: l
  | [], _, _, _ => rfl
  | r :: l, b, a, z => by
    have h1 := z.1
    simp only [tq]
    rw [if_neg (by omega), if_neg (by omega), tq_zig l a r z.2]
theorem zz_tp {ps : List Int} (z : ZZ ps) : tp ps = ps := by
  match ps, z with
  | [], _ => rfl
  | [x], _ => rfl
  | x :: y :: l, z =>
    show ts x (y :: l) = _
    simp only [ts]
    rw [if_neg (zz_cons z), tq_zig l x y z]
/-- pairs in their order -/
abbrev Le (r s : Int × Int) : Prop := r.1 < s.1 ∨ (r.1 = s.1 ∧ r.2 ≤ s.2)
theorem le_anti {r s : Int × Int} (h1 : Le r s) (h2 : Le s r) : r = s := by
  obtain ⟨a, b⟩ := r
  obtain ⟨c, d⟩ := s
  have e1 : a = c := by simp only [Le] at h1 h2; omega
  have e2 : b = d := by simp only [Le] at h1 h2; omega
  rw [e1, e2]
theorem sorted_same : ∀ {l m : List (Int × Int)}, l.Perm m → l.Pairwise Le → m.Pairwise Le → l = m
  | [], m, h, _, _ => (List.Perm.nil_eq h)
  | x :: l, m, h, h1, h2 => by
    cases m with
    | nil => exact absurd h.length_eq (by simp)
    | cons y m =>
      have hx := List.pairwise_cons.mp h1
      have hy := List.pairwise_cons.mp h2
      have e : x = y := by
        have m1 : x ∈ y :: m := h.mem_iff.mp List.mem_cons_self
        have m2 : y ∈ x :: l := h.mem_iff.mpr List.mem_cons_self
        rcases List.mem_cons.mp m1 with e | e
        · exact e
        · rcases List.mem_cons.mp m2 with e' | e'
          · exact e'.symm
          · exact le_anti (hx.1 y e') (hy.1 x e)
      subst e
      rw [sorted_same ((List.perm_cons x).mp h) hx.2 hy.2]
end RN

/-! readings put behind a rest one by one -/
namespace RS
open PM RM RN
/-- the last of some points is none any more with a reading behind it -/
def lo : List Int → Int → Bool
  | [], _ => false
  | [u], r => decide (u = r)
  | [b, u], r => decide (u = r) || decide (Btw u b r)
  | _ :: u :: v :: t, r => lo (u :: v :: t) r
def push : List Int → Int → List Int
  | [], r => [r]
  | [u], r => if u = r then [r] else [u, r]
  | [b, u], r => if u = r ∨ Btw u b r then [b, r] else [b, u, r]
  | b :: u :: v :: t, r => b :: push (u :: v :: t) r
theorem lo_two : ∀ (dn : List Int) (b u r : Int), lo (dn ++ [b, u]) r = (decide (u = r) || decide (Btw u b r))
  | [], _, _, _ => rfl
  | [x], _, _, _ => rfl
  | x :: y :: dn, b, u, r => by
    have h := lo_two (y :: dn) b u r
    cases dn with
    | nil => exact h
    | cons z dn => exact h
theorem push_lo : ∀ (p : List Int) (r : Int), push p r = (if lo p r = true then p.dropLast else p) ++ [r]
  | [], _ => rfl
  | [u], r => by
    simp only [push, lo, decide_eq_true_eq]
    split <;> simp
  | [b, u], r => by
    simp only [push, lo, Bool.or_eq_true, decide_eq_true_eq]
    split <;> simp
  | b :: u :: v :: t, r => by
    have h := push_lo (u :: v :: t) r
    simp only [push, lo]
    rw [h]
    by_cases e : lo (u :: v :: t) r = true
    · simp [e]
    · simp [e]
theorem push_two (dn : List Int) (b u r : Int) : push (dn ++ [b, u]) r = if u = r ∨ Btw u b r then dn ++ [b, r] else dn ++ [b, u, r] := by
  rw [push_lo, lo_two]
  simp only [Bool.or_eq_true, decide_eq_true_eq]
  split
  · rw [show dn ++ [b, u] = (dn ++ [b]) ++ [u] by simp, List.dropLast_concat]; simp
  · simp
theorem push_cons (b : Int) : ∀ {p : List Int} (r : Int), 2 ≤ p.length → push (b :: p) r = b :: push p r
  | [], _, h => by simp at h
  | [_], _, h => by simp at h
  | _ :: _ :: _, _, _ => rfl
theorem tq_ne (b a : Int) : ∀ l, 1 ≤ (tq b a l).length
  | [] => Nat.le_refl _
  | r :: l => by
    simp only [tq]
    split
    · exact tq_ne b a l
    · split
      · exact tq_ne b r l
      · simp
theorem tq_push : ∀ (l : List Int) (b a r : Int), b :: tq b a (l ++ [r]) = push (b :: tq b a l) r
  | [], b, a, r => by
    show b :: tq b a [r] = push [b, a] r
    simp only [tq, push]
    by_cases e : a = r
    · rw [if_pos e, if_pos (Or.inl e), e]
    · rw [if_neg e]
      by_cases bt : Btw a b r
      · rw [if_pos bt, if_pos (Or.inr bt)]
      · rw [if_neg bt, if_neg (fun z => z.elim e bt)]
  | x :: l, b, a, r => by
    simp only [List.cons_append, tq]
    by_cases e : a = x
    · rw [if_pos e, if_pos e]
      exact tq_push l b a r
    · rw [if_neg e, if_neg e]
      by_cases bt : Btw a b x
      · rw [if_pos bt, if_pos bt]
        exact tq_push l b x r
      · rw [if_neg bt, if_neg bt, tq_push l a x r, push_cons b r (by have := tq_ne a x l; simp; omega)]
theorem ts_push : ∀ (l : List Int) (a r : Int), ts a (l ++ [r]) = push (ts a l) r
  | [], a, r => by
    show ts a [r] = push [a] r
    simp only [ts, push]
    by_cases e : a = r
    · rw [if_pos e, if_pos e, e]
    · rw [if_neg e, if_neg e]
      rfl
  | x :: l, a, r => by
    simp only [List.cons_append, ts]
    by_cases e : a = x
    · rw [if_pos e, if_pos e]
      exact ts_push l a r
    · rw [if_neg e, if_neg e]
      exact tq_push l a x r
theorem tp_push (l : List Int) (r : Int) : tp (l ++ [r]) = push (tp l) r := by
  cases l with
  | nil => rfl
  | cons a l => exact ts_push l a r
theorem tp_take {ns : List Int} {i : Nat} {r : Int} (h : ns[i]? = some r) : tp (ns.take (i + 1)) = push (tp (ns.take i)) r := by
  rw [List.take_add_one, h]
  exact tp_push _ _
/-- with points that go up and down, so they go on -/
theorem zz_push {p : List Int} (r : Int) (h : ZZ p) : ZZ (push p r) := by
  have e := tp_push p r
  rw [zz_tp h] at e
  rw [← e]
  exact tp_zz _
theorem taken_abs {a b c d : Int} (h : ZZ (a :: b :: c :: d :: [])) : Taken a b c d ↔ (((b - a).natAbs : Int) ≥ ((c - b).natAbs : Int) ∧ ((d - c).natAbs : Int) ≥ ((c - b).natAbs : Int)) := by
  rw [taken_iff h]
  have h1 := h.1
  have h2 := h.2.1
  omega
theorem zz_at {ps : List Int} : ZZ ps → ∀ {i : Nat} {a b c d : Int}, ps[i]? = some a → ps[i + 1]? = some b → ps[i + 2]? = some c → ps[i + 3]? = some d → ZZ [a, b, c, d] := by
  intro h
  induction ps with
  | nil => intro i a b c d h0; cases h0
  | cons x p ih =>
    intro i a b c d h0 h1 h2 h3
    cases i with
    | succ i => exact ih h.tail h0 h1 h2 h3
    | zero =>
      match p, h, h1, h2, h3 with
      | y :: z :: u :: t, h, h1, h2, h3 =>
        obtain rfl := Option.some.inj h0
        obtain rfl := Option.some.inj h1
        obtain rfl := Option.some.inj h2
        obtain rfl := Option.some.inj h3
        exact h.four
theorem zz_mid {pre : List Int} {a b c d : Int} {post : List Int} (h : ZZ (pre ++ a :: b :: c :: d :: post)) : ZZ [a, b, c, d] := by
  induction pre with
  | nil => exact h.four
  | cons x p ih => exact ih h.tail
theorem zz_mid3 {pre : List Int} {a b c : Int} {post : List Int} (h : ZZ (pre ++ a :: b :: c :: post)) : ((a < b ∧ c < b) ∨ (b < a ∧ b < c)) := by
  induction pre with
  | nil => exact h.1
  | cons x p ih => exact ih h.tail
theorem step_on {p q : List Int} {cy : Int × Int} (s : Step p cy q) : ∀ {m : List Int} {b u : Int}, p = m ++ [b, u] → ZZ p →
    ∃ m' b', q = m' ++ [b', u] ∧ (b < u ↔ b' < u) ∧ (u < b ↔ u < b') ∧ ∀ r, (b < u → u ≤ r) → (u < b → r ≤ u) → Step (m ++ [b, r]) cy (m' ++ [b', r]) := by
  induction s with
  | @here a b1 c d post t =>
    intro m b u e z
    have ti := (taken_iff z.four).mp t
    rcases List.eq_nil_or_concat post with rfl | ⟨post1, y, rfl⟩
    · have e2 : [a, b1] ++ [c, d] = m ++ [b, u] := e
      obtain ⟨rfl, e4⟩ := List.append_inj' e2 rfl
      injection e4 with e5 e6
      injection e6 with e6 _
      subst e5 e6
      refine ⟨[], a, rfl, by omega, by omega, fun r h1 h2 => ?_⟩
      have zr : ZZ [a, b1, c, r] := ⟨z.1, by have := z.2.1; constructor; have := z.1; omega; show c ≠ r; omega⟩
      exact .here ((taken_iff zr).mpr (by omega))
    · rcases List.eq_nil_or_concat post1 with rfl | ⟨post2, x, rfl⟩
      · have e2 : [a, b1, c] ++ [d, y] = m ++ [b, u] := e
        obtain ⟨rfl, e4⟩ := List.append_inj' e2 rfl
        injection e4 with e5 e6
        injection e6 with e6 _
        subst e5 e6
        exact ⟨[a], d, rfl, Iff.rfl, Iff.rfl, fun r _ _ => .here t⟩
      · have e2 : (a :: b1 :: c :: d :: post2) ++ [x, y] = m ++ [b, u] := by rw [← e]; simp
        obtain ⟨rfl, e4⟩ := List.append_inj' e2 rfl
        injection e4 with e5 e6
        injection e6 with e6 _
        subst e5 e6
        exact ⟨a :: d :: post2, x, by simp, Iff.rfl, Iff.rfl, fun r _ _ => .here t⟩
  | @there x p q cy s ih =>
    intro m b u e z
    cases m with
    | nil =>
      have hl := s.len
      injection e with _ e
      rw [e] at hl
      simp at hl
    | cons y m =>
      injection e with e1 e2
      subst e1
      obtain ⟨m', b', h1, h2, h3, h4⟩ := ih e2 z.tail
      exact ⟨x :: m', b', by rw [h1]; rfl, h2, h3, fun r k1 k2 => .there (h4 r k1 k2)⟩
theorem run_on {p q : List Int} {cs : List (Int × Int)} (h : Run p cs q) : ∀ {m : List Int} {b u : Int}, p = m ++ [b, u] → ZZ p →
    ∃ m' b', q = m' ++ [b', u] ∧ (b < u ↔ b' < u) ∧ (u < b ↔ u < b') ∧ ∀ r, (b < u → u ≤ r) → (u < b → r ≤ u) → Run (m ++ [b, r]) cs (m' ++ [b', r]) := by
  induction h with
  | nil p => exact fun {m b u} e z => ⟨m, b, e, Iff.rfl, Iff.rfl, fun r _ _ => .nil _⟩
  | @cons p q r0 c cs s run ih =>
    intro m b u e z
    obtain ⟨m1, b1, h1, h2, h3, h4⟩ := step_on s e z
    obtain ⟨m2, b2, k1, k2, k3, k4⟩ := ih h1 (ZZ.step s z)
    exact ⟨m2, b2, k1, h2.trans k2, h3.trans k3, fun r j1 j2 => .cons (h4 r j1 j2) (k4 r (fun z => j1 (h2.mpr z)) (fun z => j2 (h3.mpr z)))⟩
theorem step_two {p q : List Int} {c : Int × Int} (s : Step p c q) : 2 ≤ q.length := by
  induction s with
  | here _ => simp only [List.length_cons]; omega
  | there _ ih => simp only [List.length_cons]; omega
theorem two_last {p : List Int} (h : 2 ≤ p.length) : ∃ m b u, p = m ++ [b, u] := by
  rcases List.eq_nil_or_concat p with rfl | ⟨m1, d, rfl⟩
  · simp at h
  · rcases List.eq_nil_or_concat m1 with rfl | ⟨m2, c, rfl⟩
    · simp at h
    · exact ⟨m2, c, d, by simp⟩
/-- a reading behind a load is a reading behind its rest -/
theorem run_push {p q : List Int} {cs : List (Int × Int)} (h : Run p cs q) (z : ZZ p) (r : Int) : Run (push p r) cs (push q r) := by
  by_cases h2 : 2 ≤ p.length
  · obtain ⟨m, b, u, rfl⟩ := two_last h2
    obtain ⟨m', b', rfl, e1, e2, e3⟩ := run_on h rfl z
    rw [push_two, push_two]
    by_cases hb : u = r ∨ Btw u b r
    · have hb' : u = r ∨ Btw u b' r := hb.imp id (fun k => by omega)
      rw [if_pos hb, if_pos hb']
      exact e3 r (fun k => by omega) (fun k => by omega)
    · have hb' : ¬ (u = r ∨ Btw u b' r) := fun k => hb (k.imp id (fun k => by omega))
      rw [if_neg hb, if_neg hb']
      have := RN.Run.suffix h [r]
      simpa using this
  · cases h with
    | nil _ => exact .nil _
    | cons s _ =>
      have := s.len
      have := step_two s
      exact absurd (show 2 ≤ p.length by omega) h2
theorem Run.append {p q r : List Int} {cs ds : List (Int × Int)} (h : Run p cs q) (k : Run q ds r) : Run p (cs ++ ds) r := by
  induction h with
  | nil p => exact k
  | cons s _ ih => exact .cons s (ih k)
/-- one reading more -/
theorem stream {ns : List Int} {i : Nat} {r : Int} {cs cs2 : List (Int × Int)} {rs rs2 : List Int} (hr : ns[i]? = some r) (h : Run (tp (ns.take i)) cs rs) (k : Run (push rs r) cs2 rs2) : Run (tp (ns.take (i + 1))) (cs ++ cs2) rs2 := by
  rw [tp_take hr]
  exact Run.append (run_push h (tp_zz _) r) k
theorem push_len (p : List Int) (r : Int) : (push p r).length ≤ p.length + 1 := by
  rw [push_lo]
  split <;> simp
end RS

/-! turning_points, swings -/
namespace PB
open PySem PySem.Spec PyProof.Rows L2 KA PH PM PA RM RS
theorem atI_last2 (xs : List V) (u v : V) : atI (xs ++ [u] ++ [v]) (-2) = some u := by
  have hl : (xs ++ [u] ++ [v]).length = xs.length + 2 := by simp
  have h : ixN (xs ++ [u] ++ [v]).length (-2) = some xs.length := by
    unfold ixN
    rw [hl, if_neg (by decide), if_pos (by omega)]
    congr 1
    omega
  unfold atI
  rw [h]
  show (xs ++ [u] ++ [v])[xs.length]? = some u
  simp
theorem drop_at {ns : List Int} {i : Nat} {r : Int} (h : ns[i]? = some r) : ns.drop i = r :: ns.drop (i + 1) := by
  obtain ⟨h1, h2⟩ := List.getElem?_eq_some_iff.mp h
  rw [List.drop_eq_getElem_cons h1, h2]
section
variable {P : Program} {w : World} {K : PySem.W.Frag} {mg : Str → Option Value} {base : Heap}
def spTPl (K : PySem.W.Frag) : Sp := fun vs H Q _ => ∃ (a : Addr) (ns : List Int), vs = [.ref a] ∧ SqL K H a (ns.map V.int) ∧ ns.length ≤ 21000 ∧ ∀ H' p, Same H H' → H p = none → H' p = some (.tup ((tp ns).map V.int)) → Q (.ref p) H'
def spTPt (K : PySem.W.Frag) : Sp := fun vs H Q _ => ∃ (a : Addr) (ns : List Int), vs = [.ref a] ∧ SqT K H a (ns.map V.int) ∧ ns.length ≤ 21000 ∧ ∀ H' p, Same H H' → H p = none → H' p = some (.tup ((tp ns).map V.int)) → Q (.ref p) H'
abbrev spTP (K : PySem.W.Frag) : Sp := fun vs H Q E => spTPl K vs H Q E ∨ spTPt K vs H Q E
def spLO (K : PySem.W.Frag) : Sp := fun vs H Q _ => ∃ (a : Addr) (ps : List Int) (r : Int), vs = [.ref a, .int r] ∧ SqL K H a (ps.map V.int) ∧ Q (.bl (lo ps r)) H
theorem ends3 (ps : List Int) : ps = [] ∨ (∃ u, ps = [u]) ∨ ∃ dn b u, ps = dn ++ [b, u] := by
  rcases List.eq_nil_or_concat ps with h | ⟨m1, d, h⟩
  · exact .inl h
  · rcases List.eq_nil_or_concat m1 with h1 | ⟨m2, c, h1⟩
    · subst h1
      exact .inr (.inl ⟨d, by rw [h]; rfl⟩)
    · subst h1
      exact .inr (.inr ⟨m2, c, d, by rw [h]; simp⟩)
theorem ok_LO {f fB : Addr} {fd fdB : FuncData} {k : Nat} (F : Fun K "is_left_out" "is_left_out" sLO f fd) (FB : Fun K "_lies_between" "_lies_between" sBtw fB fdB) (gB : mg "_lies_between" = some (.ref fB)) (bB : Binds K fdB ["reading", "before", "after"] [])
    (ml : mg "len" = none) : FnOk P w K mg base CX0 (k + 2) f fd ["points", "reading"] (spLO K) := by
  have GB : FnOk P w K mg base CX0 (k + 1) fB fdB ["reading", "before", "after"] spBtw := ok_btw FB
  refine F.ok scLO (fun vs H Q E h => ?_) (fun cdv A outer s H vs Q E hr h => ?_)
  · obtain ⟨a, ps, r, rfl, _⟩ := h
    rfl
  · obtain ⟨a, ps, r, rfl, hS, hq⟩ := h
    refine ⟨_, pss_cons (ps_if (pt_not (pt_truth (pv 0) (by intro _; rfl))) (pss_one (ps_ret pe_bl)) pss_nil)
      (pss_cons (ps_set (i := 2) scLO.nd rfl (.inl rfl) (pe_ix ix_list (pv 0) (pe_un un_neg pe_int) (fun _ _ => rfl)))
      (pss_one (ps_ret (pe_or (pe_cmpR op_eq (pv 2) (pv 1) (nomark _)) (pe_one (pe_and (pe_cmpR op_gt (pe_callB call_len_seq (by rfl) ml PySem.boot_len (pa_cons (pv 0) pa_nil)) pe_int (nomark _))
        (pe_one (pe_call GB hr (by rfl) gB FB.kp bB .nil pass0 (pa_cons (pv 2) (pa_cons (pe_ix ix_list (pv 0) (pe_un un_neg pe_int) (fun _ _ => rfl)) (pa_cons (pv 1) pa_nil))))))))))), ?_⟩
    rcases ends3 ps with rfl | ⟨u, rfl⟩ | ⟨dn, b, u, rfl⟩
    · refine ⟨.ref a, rfl, false, .inl ⟨[], hS, rfl⟩, ?_⟩
      refine iteT ?_
      exact hq
    · refine ⟨.ref a, rfl, true, .inl ⟨[.int u], hS, rfl⟩, ?_⟩
      refine iteF ?_
      refine ⟨.ref a, rfl, 1, rfl, a, _, -1, .int u, rfl, rfl, hS, rfl, .int u, rfl, .int r, rfl, rfl, _, rfl, ?_⟩
      by_cases e : u = r
      · rw [show lo [u] r = true from decide_eq_true e] at hq
        rw [decide_eq_true (show V.int u = V.int r by rw [e])]
        exact iteT hq
      · rw [show lo [u] r = false from decide_eq_false e] at hq
        rw [decide_eq_false (show ¬ V.int u = V.int r from fun z => e (V.int.inj z))]
        exact iteF ⟨.ref a, rfl, a, _, rfl, .inl hS, _, _, rfl, rfl, _, rfl, iteF hq⟩
    · have em : ((dn ++ [b, u]).map V.int) = (dn.map V.int ++ [V.int b]) ++ [V.int u] := by simp
      rw [em] at hS
      have e0 : (!((dn.map V.int ++ [V.int b]) ++ [V.int u]).isEmpty) = true := by cases dn <;> rfl
      have hL : ((dn.map V.int ++ [V.int b]) ++ [V.int u]).length = dn.length + 2 := by simp
      rw [lo_two] at hq
      refine ⟨.ref a, rfl, true, .inl ⟨_, hS, e0.symm⟩, ?_⟩
      refine iteF ?_
      refine ⟨.ref a, rfl, 1, rfl, a, _, -1, .int u, rfl, rfl, hS, atI_last _ _, .int u, rfl, .int r, rfl, rfl, _, rfl, ?_⟩
      by_cases e : u = r
      · rw [decide_eq_true e, Bool.true_or] at hq
        rw [decide_eq_true (show V.int u = V.int r by rw [e])]
        exact iteT hq
      · rw [decide_eq_false e, Bool.false_or] at hq
        rw [decide_eq_false (show ¬ V.int u = V.int r from fun z => e (V.int.inj z))]
        have h2 : decide ((((dn.map V.int ++ [V.int b]) ++ [V.int u]).length : Int) > 1) = true := decide_eq_true (by rw [hL]; omega)
        refine iteF ⟨.ref a, rfl, a, _, rfl, .inl hS, _, _, rfl, rfl, _, rfl, ?_⟩
        rw [h2]
        exact iteT ⟨.int u, rfl, .ref a, rfl, 2, rfl, a, _, -2, .int b, rfl, rfl, hS, atI_last2 _ _ _, .int r, rfl, u, b, r, rfl, hq⟩
theorem ok_TPl {f fL : Addr} {fd fdL : FuncData} {k : Nat} (F : Fun K "turning_points" "turning_points" sTP f fd) (GL : FnOk P w K mg base CX0 (k + 2) fL fdL ["points", "reading"] (spLO K)) (gL : mg "is_left_out" = some (.ref fL)) (kL : PySem.W.keepIn K (.ref fL) = true) (bL : Binds K fdL ["points", "reading"] [])
    (mt : mg "tuple" = none) : FnOk P w K mg base CX0 (k + 3) f fd ["load"] (spTPl K) := by
  refine F.ok scTP (fun vs H Q E h => ?_) (fun cdv A outer s H vs Q E hr h => ?_)
  · obtain ⟨a, ns, rfl, _⟩ := h
    rfl
  · obtain ⟨a, ns, rfl, hS, hlen, hq⟩ := h
    refine ⟨_, pss_cons (ps_set (i := 1) scTP.nd rfl (.inl rfl) (pe_lst pa_nil))
      (pss_cons (ps_for PassesOwn.never rfl (pi_list (pv 0)) (pg_name (i := 2) scTP.nd rfl (.inl rfl))
        (pss_cons (ps_if (pt_val (pe_call GL hr (by rfl) gL kL bL .nil pass0 (pa_cons (pv 1) (pa_cons (pv 2) pa_nil))))
              (pss_one (ps_expr (pe_bm0 PySem.F.plainAttrs_list PySem.F.slot_list_pop PySem.F.type_list_pop mt_pop (pv 1)))) pss_nil)
            (pss_one (ps_expr (pe_bm PySem.F.plainAttrs_list PySem.F.slot_list_append PySem.F.type_list_append mt_append (pv 1) (pa_cons (pv 2) pa_nil))))))
      (pss_one (ps_ret (pe_callTy call_tuple_of (by rfl) mt (by decide +kernel) (pa_cons (pv 1) pa_nil))))), ?_⟩
    refine ⟨Nat.zero_le _, fun D nD => ?_⟩
    have sm : ∀ o, Same H (upd H D o) := fun o => same_new nD
    refine ⟨.ref a, rfl, a, rfl, ⟨_, (sm _).seq hS⟩, for_list (K := K) (a := a) (xs := ns.map V.int)
      (fun i σ H' => ∃ (r2 : Option V), σ = [some (.ref a), some (.ref D), r2] ∧ H' = upd H D (.lst ((tp (ns.take i)).map V.int)) ∧ (tp (ns.take i)).length ≤ i) ?_ ?_ ?_ ?_⟩
    · exact ⟨none, rfl, rfl, Nat.le_refl _⟩
    · rintro i σ H' _ ⟨r2, rfl, rfl, _⟩
      exact (sm _).seq hS
    · rintro i x σ H' hx ⟨r2, rfl, rfl, hpl⟩
      obtain ⟨r, hr2, rfl⟩ := int_at hx
      have hin : i < ns.length := (List.getElem?_eq_some_iff.mp hr2).1
      rw [tp_take hr2]
      generalize tp (ns.take i) = ps at hpl ⊢
      have hpl2 := Nat.le_trans (push_len ps r) (Nat.succ_le_succ hpl)
      refine ⟨.ref D, rfl, .int r, rfl, D, ps, r, rfl, SqL.of upd_same, _, rfl, ?_⟩
      have hp := push_lo ps r
      cases hl : lo ps r with
      | true =>
        rw [hl, if_pos rfl] at hp
        have hne : ps ≠ [] := fun z => by rw [z] at hl; cases hl
        obtain ⟨ps', u, rfl⟩ : ∃ ps' u, ps = ps' ++ [u] := by
          rcases List.eq_nil_or_concat ps with h | ⟨m1, d, h⟩
          · exact absurd h hne
          · exact ⟨m1, d, by rw [h]; simp⟩
        rw [List.dropLast_concat] at hp
        have em : (ps' ++ [u]).map V.int = ps'.map V.int ++ [V.int u] := by simp
        have hl' : (ps' ++ [u]).length = ps'.length + 1 := by simp
        refine iteT ⟨.ref D, rfl, .inl ⟨rfl, _, SqL.of upd_same⟩, D, ps'.map V.int ++ [V.int u], .int u, rfl, rfl, by rw [upd_same, em], by simp, ?_⟩
        refine ⟨.ref D, rfl, .inl ⟨rfl, _, SqL.of upd_same⟩, .int r, rfl, D, ps'.map V.int, _, rfl, rfl, by rw [upd_same, List.dropLast_concat], by rw [List.length_map]; exact small22000 (by omega), _, rfl, ?_, hpl2⟩
        rw [upd_upd, upd_upd, hp, List.map_append]
        rfl
      | false =>
        rw [hl, if_neg (by decide)] at hp
        refine iteF ?_
        refine ⟨.ref D, rfl, .inl ⟨rfl, _, SqL.of upd_same⟩, .int r, rfl, D, _, _, rfl, rfl, upd_same, by rw [List.length_map]; exact small22000 (by omega), _, rfl, ?_, hpl2⟩
        rw [upd_upd, hp, List.map_append]
        rfl
    · rintro σ H' ⟨r2, rfl, rfl, hpl⟩
      have et : ns.take (ns.map V.int).length = ns := by rw [List.length_map]; exact List.take_length
      rw [et]
      exact ⟨.ref D, rfl, D, _, rfl, .inl ⟨SqL.of upd_same, fun l nl => hq _ l ((sm _).trans (same_new nl)) ((sm _).free nl) upd_same⟩⟩
theorem ok_TPt {f fL : Addr} {fd fdL : FuncData} {k : Nat} (F : Fun K "turning_points" "turning_points" sTP f fd) (GL : FnOk P w K mg base CX0 (k + 2) fL fdL ["points", "reading"] (spLO K)) (gL : mg "is_left_out" = some (.ref fL)) (kL : PySem.W.keepIn K (.ref fL) = true) (bL : Binds K fdL ["points", "reading"] [])
    (mt : mg "tuple" = none) : FnOk P w K mg base CX0 (k + 3) f fd ["load"] (spTPt K) := by
  refine F.ok scTP (fun vs H Q E h => ?_) (fun cdv A outer s H vs Q E hr h => ?_)
  · obtain ⟨a, ns, rfl, _⟩ := h
    rfl
  · obtain ⟨a, ns, rfl, hS, hlen, hq⟩ := h
    refine ⟨_, pss_cons (ps_set (i := 1) scTP.nd rfl (.inl rfl) (pe_lst pa_nil))
      (pss_cons (ps_for PassesOwn.never rfl (pi_tup (pv 0)) (pg_name (i := 2) scTP.nd rfl (.inl rfl))
        (pss_cons (ps_if (pt_val (pe_call GL hr (by rfl) gL kL bL .nil pass0 (pa_cons (pv 1) (pa_cons (pv 2) pa_nil))))
              (pss_one (ps_expr (pe_bm0 PySem.F.plainAttrs_list PySem.F.slot_list_pop PySem.F.type_list_pop mt_pop (pv 1)))) pss_nil)
            (pss_one (ps_expr (pe_bm PySem.F.plainAttrs_list PySem.F.slot_list_append PySem.F.type_list_append mt_append (pv 1) (pa_cons (pv 2) pa_nil))))))
      (pss_one (ps_ret (pe_callTy call_tuple_of (by rfl) mt (by decide +kernel) (pa_cons (pv 1) pa_nil))))), ?_⟩
    refine ⟨Nat.zero_le _, fun D nD => ?_⟩
    have sm : ∀ o, Same H (upd H D o) := fun o => same_new nD
    refine ⟨.ref a, rfl, a, rfl, ⟨_, SqT_same (sm _) hS⟩, for_tup (K := K) (a := a) (xs := ns.map V.int)
      (fun i σ H' => ∃ (r2 : Option V), σ = [some (.ref a), some (.ref D), r2] ∧ H' = upd H D (.lst ((tp (ns.take i)).map V.int)) ∧ (tp (ns.take i)).length ≤ i) ?_ ?_ ?_ ?_⟩
    · exact ⟨none, rfl, rfl, Nat.le_refl _⟩
    · rintro i σ H' _ ⟨r2, rfl, rfl, _⟩
      exact SqT_same (sm _) hS
    · rintro i x σ H' hx ⟨r2, rfl, rfl, hpl⟩
      obtain ⟨r, hr2, rfl⟩ := int_at hx
      have hin : i < ns.length := (List.getElem?_eq_some_iff.mp hr2).1
      rw [tp_take hr2]
      generalize tp (ns.take i) = ps at hpl ⊢
      have hpl2 := Nat.le_trans (push_len ps r) (Nat.succ_le_succ hpl)
      refine ⟨.ref D, rfl, .int r, rfl, D, ps, r, rfl, SqL.of upd_same, _, rfl, ?_⟩
      have hp := push_lo ps r
      cases hl : lo ps r with
      | true =>
        rw [hl, if_pos rfl] at hp
        have hne : ps ≠ [] := fun z => by rw [z] at hl; cases hl
        obtain ⟨ps', u, rfl⟩ : ∃ ps' u, ps = ps' ++ [u] := by
          rcases List.eq_nil_or_concat ps with h | ⟨m1, d, h⟩
          · exact absurd h hne
          · exact ⟨m1, d, by rw [h]; simp⟩
        rw [List.dropLast_concat] at hp
        have em : (ps' ++ [u]).map V.int = ps'.map V.int ++ [V.int u] := by simp
        have hl' : (ps' ++ [u]).length = ps'.length + 1 := by simp
        refine iteT ⟨.ref D, rfl, .inl ⟨rfl, _, SqL.of upd_same⟩, D, ps'.map V.int ++ [V.int u], .int u, rfl, rfl, by rw [upd_same, em], by simp, ?_⟩
        refine ⟨.ref D, rfl, .inl ⟨rfl, _, SqL.of upd_same⟩, .int r, rfl, D, ps'.map V.int, _, rfl, rfl, by rw [upd_same, List.dropLast_concat], by rw [List.length_map]; exact small22000 (by omega), _, rfl, ?_, hpl2⟩
        rw [upd_upd, upd_upd, hp, List.map_append]
        rfl
      | false =>
        rw [hl, if_neg (by decide)] at hp
        refine iteF ?_
        refine ⟨.ref D, rfl, .inl ⟨rfl, _, SqL.of upd_same⟩, .int r, rfl, D, _, _, rfl, rfl, upd_same, by rw [List.length_map]; exact small22000 (by omega), _, rfl, ?_, hpl2⟩
        rw [upd_upd, hp, List.map_append]
        rfl
    · rintro σ H' ⟨r2, rfl, rfl, hpl⟩
      have et : ns.take (ns.map V.int).length = ns := by rw [List.length_map]; exact List.take_length
      rw [et]
      exact ⟨.ref D, rfl, D, _, rfl, .inl ⟨SqL.of upd_same, fun l nl => hq _ l ((sm _).trans (same_new nl)) ((sm _).free nl) upd_same⟩⟩
end
end PB

/-! swings; the law's own points -/
namespace PC
open PySem PySem.Spec PyProof.Rows L2 KA PH PM PA PB RM RS
theorem cut_to (xs : List V) (k : Nat) : cutV xs none (some ((k : Nat) : Int)) = xs.take k := by
  unfold cutV
  rw [HT.sIx_none, HT.sIx_nat]
  simp only [Nat.sub_zero, List.drop_zero]
  rcases Nat.le_total k xs.length with h | h
  · rw [Nat.min_eq_left h]
  · rw [Nat.min_eq_right h, List.take_length, List.take_of_length_le h]
theorem cut_from (xs : List V) (k : Nat) : cutV xs (some ((k : Nat) : Int)) none = xs.drop k := by
  unfold cutV
  rw [HT.sIx_nat, HT.sIx_none]
  rcases Nat.le_total k xs.length with h | h
  · rw [Nat.min_eq_left h, List.take_of_length_le (by rw [List.length_drop]; omega)]
  · rw [Nat.min_eq_right h, Nat.sub_self, List.drop_eq_nil_of_le h]
    rfl
/-- a list of i pairs stands at R, what was tracked stands -/
def Prs (H0 : Hp) (R : Addr) (ps : List Int) (i : Nat) (H : Hp) : Prop := Same H0 H ∧ ∃ xs, H R = some (.lst xs) ∧ PairsAt H xs ((sw ps).take i)
theorem Prs.start {H0 : Hp} {R : Addr} (ps : List Int) (n : H0 R = none) : Prs H0 R ps 0 (upd H0 R (.lst [])) := ⟨same_new n, [], upd_same, trivial⟩
theorem Prs.turn {H0 H1 H2 : Hp} {R q : Addr} {ps : List Int} {i : Nat} {x y : Int} (g : Prs H0 R ps i H1) (n : H0 R = none) (s : Same H1 H2) (nq : H2 q = none) (hx : ps[i]? = some x) (hy : ps[i + 1]? = some y) (hl : ps.length ≤ 21000) :
    ∃ acc, (upd H2 q (.tup [.int (rg x y).1, .int (rg x y).2])) R = some (.lst acc) ∧ acc.length < sizeLine ∧ Prs H0 R ps (i + 1) (upd (upd H2 q (.tup [.int (rg x y).1, .int (rg x y).2])) R (.lst (acc ++ [.ref q]))) := by
  obtain ⟨s0, xs, e, pa⟩ := g
  have e2 := s _ _ e
  have nRq : R ≠ q := ne_of_none e2 nq
  have sq : Same H2 (upd H2 q (.tup [.int (rg x y).1, .int (rg x y).2])) := same_new nq
  have hi : i < ps.length := (List.getElem?_eq_some_iff.mp hx).1
  have hxl : xs.length ≤ i := by rw [pa.length, List.length_take]; omega
  refine ⟨xs, sq _ _ e2, small22000 (by omega), same_again n ((s0.trans s).trans sq), xs ++ [.ref q], upd_same, ?_⟩
  rw [sw_take ps i x y hx hy]
  have other : ∀ {ys : List V} {rs : List (Int × Int)}, PairsAt H1 ys rs → PairsAt (upd (upd H2 q (.tup [.int (rg x y).1, .int (rg x y).2])) R (.lst (xs ++ [.ref q]))) ys rs := by
    intro ys
    induction ys with
    | nil => intro rs h; cases rs with
      | nil => trivial
      | cons _ _ => exact h.elim
    | cons z zs ih =>
      intro rs h
      cases rs with
      | nil => exact h.elim
      | cons r rs =>
        obtain ⟨⟨p, h1, h2⟩, h3⟩ := h
        have h4 := sq _ _ (s _ _ h2)
        have npR : p ≠ R := fun z => by rw [z, e] at h2; cases h2
        exact ⟨⟨p, h1, by rw [upd_ne npR]; exact h4⟩, ih h3⟩
  refine PairsAt.append (other pa) ⟨⟨q, rfl, ?_⟩, trivial⟩
  rw [upd_ne nRq.symm, upd_same]
theorem Prs.all {H0 H : Hp} {R : Addr} {ps : List Int} {i : Nat} (g : Prs H0 R ps i H) (h : ps.length - 1 ≤ i) : ∃ xs, H R = some (.lst xs) ∧ PairsAt H xs (sw ps) := by
  obtain ⟨_, xs, e, pa⟩ := g
  rw [List.take_of_length_le (by rw [sw_len]; exact h)] at pa
  exact ⟨xs, e, pa⟩
section
variable {P : Program} {w : World} {K : PySem.W.Frag} {mg : Str → Option Value} {base : Heap}
def spSw (K : PySem.W.Frag) : Sp := fun vs H Q _ => ∃ (a : Addr) (ns : List Int), vs = [.ref a] ∧ Sq K H a (ns.map V.int) ∧ ns.length ≤ 21000 ∧ ∀ H' p xs, Same H H' → H p = none → H' p = some (.lst xs) → PairsAt H' xs (sw (tp ns)) → Q (.ref p) H'
theorem ok_sw {f fP fR : Addr} {fd fdP fdR : FuncData} {k : Nat} (F : Fun K "swings" "swings" sSw f fd) (GP : FnOk P w K mg base CX0 (k + 2) fP fdP ["load"] (spTP K)) (gP : mg "turning_points" = some (.ref fP)) (kP : PySem.W.keepIn K (.ref fP) = true) (bP : Binds K fdP ["load"] [])
    (GR : FnOk P w K mg base CX0 (k + 1) fR fdR ["one", "other"] spRng) (gR : mg "range_of" = some (.ref fR)) (kR : PySem.W.keepIn K (.ref fR) = true) (bR : Binds K fdR ["one", "other"] []) (mz : mg "zip" = none) : FnOk P w K mg base CX0 (k + 3) f fd ["load"] (spSw K) := by
  refine F.ok scSw (fun vs H Q E h => ?_) (fun cdv A outer s H vs Q E hr h => ?_)
  · obtain ⟨a, ns, rfl, _⟩ := h
    rfl
  · obtain ⟨a, ns, rfl, hS, hlen, hq⟩ := h
    have h1 := hr.mono (Nat.le_succ (k + 1))
    refine ⟨_, pss_cons (ps_set (i := 1) scSw.nd rfl (.inl rfl) (pe_call GP hr (by rfl) gP kP bP .nil pass0 (pa_cons (pv 0) pa_nil)))
      (pss_one (ps_ret (pe_lc (own := [("one", 2), ("other", 3)]) (g := gTup K 2 (gCons (gName 2) (gCons (gName 3) gNil))) rfl scSw.nd
        (RZ.pi_zipA (by rfl) mz (pa_cons (pv 1) (pa_cons (pe_slice sl_tupA (pv 1) (po_some pe_int) po_none) pa_nil)))
        (blkOk_by (own := [("one", 2), ("other", 3)]) (N := ["load", "points", "one", "other"]) (sc := defScope sSw) (by decide +kernel))
        (fun _ _ _ _ _ => pg_tup rfl (pgs_cons (pg_name (i := 2) scSw.nd rfl (Or.inl rfl) (Or.inr rfl)) (pgs_cons (pg_name (i := 3) scSw.nd rfl (Or.inl rfl) (Or.inr rfl)) pgs_nil)))
        (fun _ _ _ _ _ => pts_nil) (fun _ _ _ _ _ => pe_call GR h1 (by rfl) gR kR bR .nil pass0 (pa_cons (pv 2) (pa_cons (pv 3) pa_nil)))))), ?_⟩
    refine ⟨.ref a, rfl, ?_⟩
    have hps : (tp ns).length ≤ 21000 := Nat.le_trans (tp_len ns) hlen
    rcases hS with hS | hS
    · refine .inl ⟨a, ns, rfl, hS, hlen, fun H1 t s1 nt et => ?_⟩
      refine ⟨.ref t, rfl, .ref t, rfl, 1, rfl, t, (tp ns).map V.int, rfl, SqT.of et, fun hw => ?_, fun hn c nc => ?_⟩
      · have e0 : (tp ns).map V.int = [] := by
          have z := hw.1
          rw [show (some (1 : Int)) = some ((1 : Nat) : Int) from rfl, HT.sIx_nat] at z
          exact List.length_eq_zero_iff.mp (by omega)
        have hc : SqT K H1 t (((tp ns).map V.int).drop 1) := by
          rw [e0]
          rw [e0] at et
          exact SqT.of et
        have s2 := Same.refl H1
        refine ⟨t, t, (tp ns).map V.int, ((tp ns).map V.int).drop 1, rfl, .inr ⟨SqT.of (s2 _ _ et), hc, fun R nR => lc_it (walk_tups (K := K) (a := t) (b := t) (xs := (tp ns).map V.int) (ys := ((tp ns).map V.int).drop 1) (n := (tp ns).length - 1) (by rw [List.length_drop, List.length_map]; omega))
          (fun i H' => Prs H1 R (tp ns) i H') (Prs.start _ nR) (fun i H' _ g => ⟨SqT.of (g.1 _ _ (s2 _ _ et)), SqT_same g.1 hc⟩) ?_ ?_⟩⟩
        · rintro i x H3 H4 hi g ⟨T, u, v, rfl, nT, rfl, g1, g2⟩
          have g1 : ((tp ns).map V.int)[i]? = some u := g1
          have g2 : (((tp ns).map V.int).drop 1)[i]? = some v := g2
          rw [List.getElem?_drop, Nat.add_comm 1 i] at g2
          obtain ⟨x, hx, rfl⟩ := int_at g1
          obtain ⟨y, hy, rfl⟩ := int_at g2
          refine ⟨T, [.int x, .int y], rfl, SqT.of upd_same, rfl, .int x, [.int y], rfl, .int y, [], rfl, rfl, rfl, ?_⟩
          refine iteT (B := True) ?_
          exact ⟨.int x, rfl, .int y, rfl, x, y, rfl, fun q nq => g.turn nR (same_new nT) nq hx hy hps⟩
        · intro H' g
          obtain ⟨xs, e, pa⟩ := g.all (Nat.le_refl _)
          exact hq H' R xs ((s1.trans s2).trans g.1) ((s1.trans s2).free nR) e pa
      · have hc : SqT K (upd H1 c (.tup (cutV ((tp ns).map V.int) (some 1) none))) c (((tp ns).map V.int).drop 1) := SqT.of (by rw [upd_same, show (some (1 : Int)) = some ((1 : Nat) : Int) from rfl, cut_from])
        have s2 : Same H1 (upd H1 c (.tup (cutV ((tp ns).map V.int) (some 1) none))) := same_new nc
        refine ⟨t, c, (tp ns).map V.int, ((tp ns).map V.int).drop 1, rfl, .inr ⟨SqT.of (s2 _ _ et), hc, fun R nR => lc_it (walk_tups (K := K) (a := t) (b := c) (xs := (tp ns).map V.int) (ys := ((tp ns).map V.int).drop 1) (n := (tp ns).length - 1) (by rw [List.length_drop, List.length_map]; omega))
          (fun i H' => Prs _ R (tp ns) i H') (Prs.start _ nR) (fun i H' _ g => ⟨SqT.of (g.1 _ _ (s2 _ _ et)), SqT_same g.1 hc⟩) ?_ ?_⟩⟩
        · rintro i x H3 H4 hi g ⟨T, u, v, rfl, nT, rfl, g1, g2⟩
          have g1 : ((tp ns).map V.int)[i]? = some u := g1
          have g2 : (((tp ns).map V.int).drop 1)[i]? = some v := g2
          rw [List.getElem?_drop, Nat.add_comm 1 i] at g2
          obtain ⟨x, hx, rfl⟩ := int_at g1
          obtain ⟨y, hy, rfl⟩ := int_at g2
          refine ⟨T, [.int x, .int y], rfl, SqT.of upd_same, rfl, .int x, [.int y], rfl, .int y, [], rfl, rfl, rfl, ?_⟩
          refine iteT (B := True) ?_
          exact ⟨.int x, rfl, .int y, rfl, x, y, rfl, fun q nq => g.turn nR (same_new nT) nq hx hy hps⟩
        · intro H' g
          obtain ⟨xs, e, pa⟩ := g.all (Nat.le_refl _)
          exact hq H' R xs ((s1.trans s2).trans g.1) ((s1.trans s2).free nR) e pa
    · refine .inr ⟨a, ns, rfl, hS, hlen, fun H1 t s1 nt et => ?_⟩
      refine ⟨.ref t, rfl, .ref t, rfl, 1, rfl, t, (tp ns).map V.int, rfl, SqT.of et, fun hw => ?_, fun hn c nc => ?_⟩
      · have e0 : (tp ns).map V.int = [] := by
          have z := hw.1
          rw [show (some (1 : Int)) = some ((1 : Nat) : Int) from rfl, HT.sIx_nat] at z
          exact List.length_eq_zero_iff.mp (by omega)
        have hc : SqT K H1 t (((tp ns).map V.int).drop 1) := by
          rw [e0]
          rw [e0] at et
          exact SqT.of et
        have s2 := Same.refl H1
        refine ⟨t, t, (tp ns).map V.int, ((tp ns).map V.int).drop 1, rfl, .inr ⟨SqT.of (s2 _ _ et), hc, fun R nR => lc_it (walk_tups (K := K) (a := t) (b := t) (xs := (tp ns).map V.int) (ys := ((tp ns).map V.int).drop 1) (n := (tp ns).length - 1) (by rw [List.length_drop, List.length_map]; omega))
          (fun i H' => Prs H1 R (tp ns) i H') (Prs.start _ nR) (fun i H' _ g => ⟨SqT.of (g.1 _ _ (s2 _ _ et)), SqT_same g.1 hc⟩) ?_ ?_⟩⟩
        · rintro i x H3 H4 hi g ⟨T, u, v, rfl, nT, rfl, g1, g2⟩
          have g1 : ((tp ns).map V.int)[i]? = some u := g1
          have g2 : (((tp ns).map V.int).drop 1)[i]? = some v := g2
          rw [List.getElem?_drop, Nat.add_comm 1 i] at g2
          obtain ⟨x, hx, rfl⟩ := int_at g1
          obtain ⟨y, hy, rfl⟩ := int_at g2
          refine ⟨T, [.int x, .int y], rfl, SqT.of upd_same, rfl, .int x, [.int y], rfl, .int y, [], rfl, rfl, rfl, ?_⟩
          refine iteT (B := True) ?_
          exact ⟨.int x, rfl, .int y, rfl, x, y, rfl, fun q nq => g.turn nR (same_new nT) nq hx hy hps⟩
        · intro H' g
          obtain ⟨xs, e, pa⟩ := g.all (Nat.le_refl _)
          exact hq H' R xs ((s1.trans s2).trans g.1) ((s1.trans s2).free nR) e pa
      · have hc : SqT K (upd H1 c (.tup (cutV ((tp ns).map V.int) (some 1) none))) c (((tp ns).map V.int).drop 1) := SqT.of (by rw [upd_same, show (some (1 : Int)) = some ((1 : Nat) : Int) from rfl, cut_from])
        have s2 : Same H1 (upd H1 c (.tup (cutV ((tp ns).map V.int) (some 1) none))) := same_new nc
        refine ⟨t, c, (tp ns).map V.int, ((tp ns).map V.int).drop 1, rfl, .inr ⟨SqT.of (s2 _ _ et), hc, fun R nR => lc_it (walk_tups (K := K) (a := t) (b := c) (xs := (tp ns).map V.int) (ys := ((tp ns).map V.int).drop 1) (n := (tp ns).length - 1) (by rw [List.length_drop, List.length_map]; omega))
          (fun i H' => Prs _ R (tp ns) i H') (Prs.start _ nR) (fun i H' _ g => ⟨SqT.of (g.1 _ _ (s2 _ _ et)), SqT_same g.1 hc⟩) ?_ ?_⟩⟩
        · rintro i x H3 H4 hi g ⟨T, u, v, rfl, nT, rfl, g1, g2⟩
          have g1 : ((tp ns).map V.int)[i]? = some u := g1
          have g2 : (((tp ns).map V.int).drop 1)[i]? = some v := g2
          rw [List.getElem?_drop, Nat.add_comm 1 i] at g2
          obtain ⟨x, hx, rfl⟩ := int_at g1
          obtain ⟨y, hy, rfl⟩ := int_at g2
          refine ⟨T, [.int x, .int y], rfl, SqT.of upd_same, rfl, .int x, [.int y], rfl, .int y, [], rfl, rfl, rfl, ?_⟩
          refine iteT (B := True) ?_
          exact ⟨.int x, rfl, .int y, rfl, x, y, rfl, fun q nq => g.turn nR (same_new nT) nq hx hy hps⟩
        · intro H' g
          obtain ⟨xs, e, pa⟩ := g.all (Nat.le_refl _)
          exact hq H' R xs ((s1.trans s2).trans g.1) ((s1.trans s2).free nR) e pa
end
end PC

/-! places, points taken out -/
namespace QE
open PySem PySem.Spec PyProof.Rows L2 KA PH PM PA PB PC RM RN RS
abbrev sNum : Stmt := topS 5
theorem scNum : FnScope ["value"] ["value"] (defScope sNum) := ⟨rfl, rfl, rfl, by decide +kernel, rfl, by decide +kernel, by decide +kernel⟩
abbrev sMT : Stmt := topS 20
abbrev sPB : Stmt := topS 21
abbrev sCo : Stmt := topS 22
abbrev sClass : Stmt := topS 25
abbrev sLaw : Stmt := topS 48
theorem scMT : FnScope ["points", "place", "size"] ["points", "place"] (defScope sMT) := ⟨rfl, rfl, rfl, by decide +kernel, rfl, by decide +kernel, by decide +kernel⟩
theorem Sq.ix {K : PySem.W.Frag} {H : Hp} {a : Addr} {xs : List V} {z : Int} {v : V} {Q : VK} (h : Sq K H a xs) (e : atI xs z = some v) (q : Q v H) : rIx K (.ref a) (.int z) H Q := by
  rcases h with h | h
  · exact .inl ⟨a, xs, z, v, rfl, rfl, h, e, q⟩
  · exact .inr (.inl ⟨a, xs, z, v, rfl, rfl, h, e, q⟩)
section
variable {P : Program} {w : World} {K : PySem.W.Frag} {mg : Str → Option Value} {base : Heap}
def spMT (K : PySem.W.Frag) : Sp := fun vs H Q _ => ∃ (a : Addr) (ps : List Int) (i : Nat) (z x y t u : Int), vs = [.ref a, .int z] ∧ z = (i : Int) + 1 ∧ Sq K H a (ps.map V.int) ∧ ZZ ps ∧ ps[i]? = some x ∧ ps[i + 1]? = some y ∧ ps[i + 2]? = some t ∧ ps[i + 3]? = some u ∧
  ∀ H', Same H H' → Q (.bl (takenAt ps i)) H'
theorem abs_i (i : Int) : (if i < 0 then -i else i) = (i.natAbs : Int) := by split <;> omega
theorem ok_MT {f : Addr} {fd : FuncData} {k : Nat} (F : Fun K "_may_be_taken" "_may_be_taken" sMT f fd) (ma : mg "abs" = none) : FnOk P w K mg base CX0 (k + 1) f fd ["points", "place"] (spMT K) := by
  refine F.ok scMT (fun vs H Q E h => ?_) (fun cdv A outer s H vs Q E hr h => ?_)
  · obtain ⟨a, ps, i, z, x, y, t, u, rfl, _⟩ := h
    rfl
  · obtain ⟨a, ps, i, z, x, y, t, u, rfl, rfl, hS, zz, e0, e1, e2, e3, hq⟩ := h
    refine ⟨_, pss_cons (ps_set (i := 2) scMT.nd rfl (.inl rfl) (pe_callB call_abs (by rfl) ma (by decide +kernel) (pa_cons (pe_op op_sub (pe_ix ix_seq (pv 0) (pe_op op_add (pv 1) pe_int) (fun _ _ => rfl)) (pe_ix ix_seq (pv 0) (pv 1) (fun _ _ => rfl))) pa_nil)))
      (pss_one (ps_ret (pe_and (pe_cmpR op_ge (pe_callB call_abs (by rfl) ma (by decide +kernel) (pa_cons (pe_op op_sub (pe_ix ix_seq (pv 0) (pv 1) (fun _ _ => rfl)) (pe_ix ix_seq (pv 0) (pe_op op_sub (pv 1) pe_int) (fun _ _ => rfl))) pa_nil)) (pv 2) (nomark _))
        (pe_one (pe_cmpR op_ge (pe_callB call_abs (by rfl) ma (by decide +kernel) (pa_cons (pe_op op_sub (pe_ix ix_seq (pv 0) (pe_op op_add (pv 1) pe_int) (fun _ _ => rfl)) (pe_ix ix_seq (pv 0) (pe_op op_add (pv 1) pe_int) (fun _ _ => rfl))) pa_nil)) (pv 2) (nomark _)))))), ?_⟩
    have a0 : atI (ps.map V.int) ((i : Int) + 1 - 1) = some (.int x) := at_of (j := i) (by omega) (at_int e0)
    have a1 : atI (ps.map V.int) ((i : Int) + 1) = some (.int y) := at_of (j := i + 1) (by omega) (at_int e1)
    have a2 : atI (ps.map V.int) ((i : Int) + 1 + 1) = some (.int t) := at_of (j := i + 2) (by omega) (at_int e2)
    have a3 : atI (ps.map V.int) ((i : Int) + 1 + 2) = some (.int u) := at_of (j := i + 3) (by omega) (at_int e3)
    have hq2 := hq H (Same.refl H)
    rw [taken_get e0 e1 e2 e3] at hq2
    have eT : decide (Taken x y t u) = (decide (((y - x).natAbs : Int) ≥ ((t - y).natAbs : Int)) && decide (((u - t).natAbs : Int) ≥ ((t - y).natAbs : Int))) := by
      rw [← Bool.decide_and, decide_eq_decide]
      exact taken_abs (zz_at zz e0 e1 e2 e3)
    rw [eT] at hq2
    refine ⟨.ref a, rfl, .int ((i : Int) + 1), rfl, _, 1, rfl, rfl, Sq.ix hS a2 ⟨.ref a, rfl, .int ((i : Int) + 1), rfl, Sq.ix hS a1 ⟨t, y, rfl, rfl, _, rfl, ?_⟩⟩⟩
    refine ⟨.ref a, rfl, .int ((i : Int) + 1), rfl, Sq.ix hS a1 ⟨.ref a, rfl, .int ((i : Int) + 1), rfl, _, 1, rfl, rfl, Sq.ix hS a0 ⟨y, x, rfl, rfl, _, rfl, ?_⟩⟩⟩
    refine ⟨_, rfl, _, _, rfl, rfl, _, rfl, ?_⟩
    rw [abs_i, abs_i]
    cases h1 : decide (((y - x).natAbs : Int) ≥ ((t - y).natAbs : Int)) with
    | true =>
      rw [h1, Bool.true_and] at hq2
      refine iteT ⟨.ref a, rfl, .int ((i : Int) + 1), rfl, _, 2, rfl, rfl, Sq.ix hS a3 ⟨.ref a, rfl, .int ((i : Int) + 1), rfl, _, 1, rfl, rfl, Sq.ix hS a2 ⟨u, t, rfl, rfl, _, rfl, ?_⟩⟩⟩
      refine ⟨_, rfl, _, _, rfl, rfl, ?_⟩
      rw [abs_i]
      exact hq2
    | false =>
      rw [h1, Bool.false_and] at hq2
      exact iteF hq2
def spRem (K : PySem.W.Frag) : Sp := fun vs H Q _ => ∃ (a : Addr) (ps : List Int), vs = [.ref a] ∧ Sq K H a (ps.map V.int) ∧ ZZ ps ∧ ps.length ≤ 21000 ∧ ∀ H' p, Same H H' → H p = none → H' p = some (.tup ((plc ps).map V.int)) → Q (.ref p) H'
end
end QE

/-! take; the stack -/
namespace QF
open PySem PySem.Spec PyProof.Rows L2 KA PH PM PA PB PC RM RN RS QE
theorem scPB : FnScope ["rest", "reading", "cycles"] ["rest", "reading"] (defScope sPB) := ⟨rfl, rfl, rfl, by decide +kernel, rfl, by decide +kernel, by decide +kernel⟩
theorem scCo : FnScope ["load", "cycles", "rest", "reading"] ["load"] (defScope sCo) := ⟨rfl, rfl, rfl, by decide +kernel, rfl, by decide +kernel, by decide +kernel⟩
theorem taken_all {ps : List Int} {i : Nat} (h : takenAt ps i = true) : ∃ x y t u, ps[i]? = some x ∧ ps[i + 1]? = some y ∧ ps[i + 2]? = some t ∧ ps[i + 3]? = some u := by
  have := taken_lt h
  exact ⟨_, _, _, _, List.getElem?_eq_getElem (by omega), List.getElem?_eq_getElem (by omega), List.getElem?_eq_getElem (by omega), List.getElem?_eq_getElem (by omega)⟩
section
variable {P : Program} {w : World} {K : PySem.W.Frag} {mg : Str → Option Value} {base : Heap}
def spIR (K : PySem.W.Frag) : Sp := fun vs H Q _ => ∃ (a : Addr) (ps : List Int) (i : Nat) (z : Int), vs = [.ref a, .int z] ∧ z = (i : Int) + 1 ∧ Sq K H a (ps.map V.int) ∧ ZZ ps ∧ takenAt ps i = true ∧ ∀ H', Same H H' → Q (.bl true) H'
def spNum : Sp := fun vs H Q _ => ∃ z : Int, vs = [.int z] ∧ Q (.bl true) H
theorem ok_Num {f : Addr} {fd : FuncData} {k : Nat} (F : Fun K "is_number" "is_number" sNum f fd) (ms : mg "isinstance" = none) (mi : mg "int" = none) (mb : mg "bool" = none) : FnOk P w K mg base CX0 (k + 1) f fd ["value"] spNum := by
  refine F.ok scNum (fun vs H Q E h => ?_) (fun cdv A outer s H vs Q E hr h => ?_)
  · obtain ⟨z, rfl, _⟩ := h
    rfl
  · obtain ⟨z, rfl, hq⟩ := h
    refine ⟨_, pss_one (ps_ret (pe_and (pe_callB call_isi (by rfl) ms (by decide +kernel) (pa_cons (pv 0) (pa_cons (pe_bltn (v := .ty "int") (by rfl) mi (by decide +kernel) rfl) pa_nil)))
        (pe_one (pe_not (pe_callB call_isi (by rfl) ms (by decide +kernel) (pa_cons (pv 0) (pa_cons (pe_bltn (v := .ty "bool") (by rfl) mb (by decide +kernel) rfl) pa_nil))))))), ?_⟩
    refine ⟨.int z, rfl, _, .ty "int", .type "int", .type "int", true, rfl, .ty "int", .base (.int _), kit_ty (by decide +kernel), true, rfl, iteT ?_⟩
    exact ⟨.int z, rfl, _, .ty "bool", .type "int", .type "bool", false, rfl, .ty "bool", .base (.int _), kit_ty (by decide +kernel), false, rfl, hq⟩
end
end QF

/-! the stack -/
namespace QG
open PySem PySem.Spec PyProof.Rows L2 KA PH PM PA PB PC RM RN RS KD QE QF
theorem atI_last3 (xs : List V) (u v w : V) : atI (xs ++ [u, v, w]) (-3) = some u := by
  have hl : (xs ++ [u, v, w]).length = xs.length + 3 := by simp
  have h : ixN (xs ++ [u, v, w]).length (-3) = some xs.length := by
    unfold ixN
    rw [hl, if_neg (by decide), if_pos (by omega)]
    congr 1
    omega
  unfold atI
  rw [h]
  show (xs ++ [u, v, w])[xs.length]? = some u
  simp
theorem atI_last2' (xs : List V) (u v w : V) : atI (xs ++ [u, v, w]) (-2) = some v := by
  have := atI_last2 (xs ++ [u]) v w
  simpa using this
theorem last3 : ∀ {m : List Int}, 3 ≤ m.length → ∃ pre b c d, m = pre ++ [b, c, d] := by
  intro m h
  rcases List.eq_nil_or_concat m with rfl | ⟨m1, d, rfl⟩
  · simp at h
  · rcases List.eq_nil_or_concat m1 with rfl | ⟨m2, c, rfl⟩
    · simp at h
    · rcases List.eq_nil_or_concat m2 with rfl | ⟨m3, b, rfl⟩
      · simp at h
      · exact ⟨m3, b, c, d, by simp⟩
theorem pairs_upd {H : Hp} {R : Addr} {l l' : List V} (e : H R = some (.lst l)) : ∀ {xs : List V} {rs : List (Int × Int)}, PairsAt H xs rs → PairsAt (upd H R (.lst l')) xs rs
  | [], [], _ => trivial
  | x :: xs, r :: rs, ⟨⟨p, h1, h2⟩, h3⟩ => ⟨⟨p, h1, by rw [upd_ne (fun z => by rw [z, e] at h2; cases h2)]; exact h2⟩, pairs_upd e h3⟩
  | [], _ :: _, h => h.elim
  | _ :: _, [], h => h.elim
section
variable {P : Program} {w : World} {K : PySem.W.Frag} {mg : Str → Option Value} {base : Heap}
def spTPq (K : PySem.W.Frag) : Sp := fun vs H Q _ => ∃ (a : Addr) (ns : List Int), vs = [.ref a] ∧ Sq K H a (ns.map V.int) ∧ ns.length ≤ 21000 ∧ ∀ H' p, Same H H' → H p = none → H' p = some (.tup ((tp ns).map V.int)) → Q (.ref p) H'
theorem tpq_of {k : Nat} {f : Addr} {fd : FuncData} (G : FnOk P w K mg base CX0 k f fd ["load"] (spTP K)) : FnOk P w K mg base CX0 k f fd ["load"] (spTPq K) :=
  G.imp fun vs H Q E ⟨a, ns, e, hs, hl, q⟩ => hs.elim (fun z => .inl ⟨a, ns, e, z, hl, q⟩) (fun z => .inr ⟨a, ns, e, z, hl, q⟩)
theorem ch_pairs {f : Addr} {H H' : Hp} {l : List V} (c : Ch f H H') (e : H f = some (.lst l)) : ∀ {xs : List V} {rs : List (Int × Int)}, PairsAt H xs rs → PairsAt H' xs rs
  | [], [], _ => trivial
  | x :: xs, r :: rs, ⟨⟨p, h1, h2⟩, h3⟩ => ⟨⟨p, h1, c _ _ (fun z => by rw [z, e] at h2; cases h2) h2⟩, ch_pairs c e h3⟩
  | [], _ :: _, h => h.elim
  | _ :: _, [], h => h.elim
/-- what put_behind holds -/
structure Bhd (H : Hp) (C R : Addr) (xs : List V) (cs : List (Int × Int)) (rs : List Int) (Hx : Hp) : Prop where
  ch : Ch R H Hx
  c : Hx C = some (.lst xs)
  pa : PairsAt Hx xs cs
  r : Hx R = some (.lst (rs.map V.int))
theorem Bhd.same {H : Hp} {C R : Addr} {xs : List V} {cs : List (Int × Int)} {rs : List Int} {H1 H2 : Hp} (g : Bhd H C R xs cs rs H1) (s : Same H1 H2) : Bhd H C R xs cs rs H2 :=
  ⟨g.ch.trans (.of_same s), s _ _ g.c, g.pa.same s, s _ _ g.r⟩
theorem Bhd.rest {H : Hp} {C R : Addr} {xs : List V} {cs : List (Int × Int)} {rs : List Int} {H1 : Hp} (g : Bhd H C R xs cs rs H1) (nCR : C ≠ R) (rs' : List Int) : Bhd H C R xs cs rs' (upd H1 R (.lst (rs'.map V.int))) :=
  ⟨g.ch.trans .put, by rw [upd_ne nCR]; exact g.c, pairs_upd g.r g.pa, upd_same⟩
theorem Bhd.cyc {H : Hp} {C R q : Addr} {xs : List V} {cs : List (Int × Int)} {rs : List Int} {H1 : Hp} {c : Int × Int} (g : Bhd H C R xs cs rs H1) (nC : H C = none) (nCR : C ≠ R) (hq : H1 q = some (.tup [.int c.1, .int c.2])) :
    Bhd H C R (xs ++ [.ref q]) (cs ++ [c]) rs (upd H1 C (.lst (xs ++ [.ref q]))) :=
  ⟨Ch.again nC g.ch, upd_same, PairsAt.append (pairs_upd g.c g.pa) ⟨⟨q, rfl, by rw [upd_ne (fun z => by rw [z, g.c] at hq; cases hq)]; exact hq⟩, trivial⟩, by rw [upd_ne nCR.symm]; exact g.r⟩
def spPB : Sp := fun vs H Q _ => ∃ (R : Addr) (rs : List Int) (r : Int), vs = [.ref R, .int r] ∧ H R = some (.lst (rs.map V.int)) ∧ ZZ rs ∧ NF rs ∧ rs.length ≤ 21000 ∧
  ∀ H' p xs cs rs', Ch R H H' → H p = none → H' p = some (.lst xs) → PairsAt H' xs cs → H' R = some (.lst (rs'.map V.int)) → Run (push rs r) cs rs' → NF rs' → Q (.ref p) H'
theorem ok_PB {f fL fM fR : Addr} {fd fdL fdM fdR : FuncData} {k : Nat} (F : Fun K "put_behind" "put_behind" sPB f fd)
    (GL : FnOk P w K mg base CX0 (k + 2) fL fdL ["points", "reading"] (spLO K)) (gL : mg "is_left_out" = some (.ref fL)) (kL : PySem.W.keepIn K (.ref fL) = true) (bL : Binds K fdL ["points", "reading"] [])
    (GM : FnOk P w K mg base CX0 (k + 2) fM fdM ["points", "place"] (spMT K)) (gM : mg "_may_be_taken" = some (.ref fM)) (kM : PySem.W.keepIn K (.ref fM) = true) (bM : Binds K fdM ["points", "place"] [])
    (GR : FnOk P w K mg base CX0 (k + 2) fR fdR ["one", "other"] spRng) (gR : mg "range_of" = some (.ref fR)) (kR : PySem.W.keepIn K (.ref fR) = true) (bR : Binds K fdR ["one", "other"] [])
    (ml : mg "len" = none) : FnOk P w K mg base CX0 (k + 3) f fd ["rest", "reading"] spPB := by
  refine F.ok scPB (fun vs H Q E h => ?_) (fun cdv A outer s H vs Q E hr h => ?_)
  · obtain ⟨R, rs, r, rfl, _⟩ := h
    rfl
  · obtain ⟨R, rs0, r, rfl, eR, zz0, nf0, hlen, hq⟩ := h
    refine ⟨_, pss_cons (ps_if (pt_val (pe_call GL hr (by rfl) gL kL bL .nil pass0 (pa_cons (pv 0) (pa_cons (pv 1) pa_nil))))
          (pss_one (ps_expr (pe_bm0 PySem.F.plainAttrs_list PySem.F.slot_list_pop PySem.F.type_list_pop mt_pop (pv 0)))) pss_nil)
      (pss_cons (ps_expr (pe_bm PySem.F.plainAttrs_list PySem.F.slot_list_append PySem.F.type_list_append mt_append (pv 0) (pa_cons (pv 1) pa_nil)))
      (pss_cons (ps_set (i := 2) scPB.nd rfl (.inl rfl) (pe_lst pa_nil))
      (pss_cons (ps_while PassesOwn.never
            (PW.pt (pw_and (pt_cmpR op_gt (pe_callB call_len_seq (by rfl) ml PySem.boot_len (pa_cons (pv 0) pa_nil)) pe_int (nomark _)) (pw_and1 (pt_val (pe_call GM hr (by rfl) gM kM bM .nil pass0 (pa_cons (pv 0) (pa_cons (pe_op op_sub (pe_callB call_len_seq (by rfl) ml PySem.boot_len (pa_cons (pv 0) pa_nil)) pe_int) pa_nil)))))))
            (pss_cons (ps_expr (pe_bm PySem.F.plainAttrs_list PySem.F.slot_list_append PySem.F.type_list_append mt_append (pv 2) (pa_cons (pe_call GR hr (by rfl) gR kR bR .nil pass0 (pa_cons (pe_ix ix_list (pv 0) (pe_un un_neg pe_int) (fun _ _ => rfl)) (pa_cons (pe_ix ix_list (pv 0) (pe_un un_neg pe_int) (fun _ _ => rfl)) pa_nil))) pa_nil)))
              (pss_one (DS.ps_del31 (pv 0) (po_some (pe_un un_neg pe_int)) (po_some (pe_un un_neg pe_int))))))
      (pss_one (ps_ret (pv 2)))))), ?_⟩
    have zz1 : ZZ (push rs0 r) := zz_push r zz0
    have hp := push_lo rs0 r
    have hpl := push_len rs0 r
    refine ⟨.ref R, rfl, .int r, rfl, R, rs0, r, rfl, SqL.of eR, _, rfl, ?_⟩
    obtain ⟨m, nfm, em, hm1⟩ : ∃ m, NF m ∧ push rs0 r = m ++ [r] ∧ m = (if lo rs0 r = true then rs0.dropLast else rs0) := by
      refine ⟨_, ?_, hp, rfl⟩
      split
      · rcases List.eq_nil_or_concat rs0 with h | ⟨m1, d, h⟩
        · rw [h] at nf0 ⊢
          exact nf0
        · have h : rs0 = m1 ++ [d] := by rw [h]; simp
          rw [h] at nf0 ⊢
          rw [List.dropLast_concat]
          exact nf_prefix nf0
      · exact nf0
    rw [em] at zz1 hpl hq
    have hml : m.length ≤ 21000 := by
      rw [hm1]
      split
      · rw [List.length_dropLast]; omega
      · exact hlen
    have e1 : m.map V.int ++ [V.int r] = (m ++ [r]).map V.int := by rw [List.map_append]; rfl
    have start : ∀ C, (upd H R (.lst ((m ++ [r]).map V.int))) C = none → Bhd H C R [] [] (m ++ [r]) (upd (upd H R (.lst ((m ++ [r]).map V.int))) C (.lst [])) ∧ C ≠ R ∧ H C = none := by
      intro C nC
      have nCR : C ≠ R := fun z => by rw [z, upd_same] at nC; cases nC
      have nC0 : H C = none := by rw [upd_ne nCR] at nC; exact nC
      refine ⟨⟨.again nC0 .put, upd_same, trivial, by rw [upd_ne nCR.symm, upd_same]⟩, nCR, nC0⟩
    cases hl : lo rs0 r
    · rw [hl, if_neg (by decide)] at hm1
      subst hm1
      refine iteF ?_
      refine ⟨.ref R, rfl, .inl ⟨rfl, _, SqL.of eR⟩, .int r, rfl, R, _, _, rfl, rfl, eR, by rw [List.length_map]; exact small22000 (by omega), ?_⟩
      rw [e1]
      refine ⟨Nat.zero_le _, fun C nC => ?_⟩
      obtain ⟨g1, nCR, nC0⟩ := start C nC
      generalize upd (upd H R (.lst ((m ++ [r]).map V.int))) C (.lst []) = Hs at g1 ⊢
      refine ⟨fun n σ Hx => ∃ (xs : List V) (cs : List (Int × Int)) (mm : List Int), n = mm.length ∧ σ = [some (.ref R), some (.int r), some (.ref C)] ∧ Bhd H C R xs cs (mm ++ [r]) Hx ∧ Run (m ++ [r]) cs (mm ++ [r]) ∧ NF mm,
        ⟨_, [], [], m, rfl, rfl, g1, .nil _, nfm⟩, ?_⟩
      clear g1
      rintro n σ Hx ⟨xs, cs, mm, rfl, rfl, g, run, nf⟩
      have hrl := run.len
      simp only [List.length_append, List.length_singleton] at hrl
      have zzm := run.zz zz1
      have hm : ((mm ++ [r]).map V.int).length = mm.length + 1 := by simp
      refine ⟨.ref R, rfl, R, _, rfl, .inl (SqL.of g.r), _, 3, rfl, rfl, _, rfl, ?_⟩
      by_cases h3 : 3 ≤ mm.length
      · rw [show decide ((((mm ++ [r]).map V.int).length : Int) > 3) = true from decide_eq_true (by rw [hm]; omega)]
        obtain ⟨pre, b, c, d, rfl⟩ := last3 h3
        have hml : (pre ++ [b, c, d]).length = pre.length + 3 := by simp
        have el : pre ++ [b, c, d] ++ [r] = pre ++ b :: c :: d :: r :: [] := by simp
        have q0 : (pre ++ [b, c, d] ++ [r])[pre.length]? = some b := by rw [el, List.getElem?_append_right (by omega)]; simp
        have q1 : (pre ++ [b, c, d] ++ [r])[pre.length + 1]? = some c := by rw [el, List.getElem?_append_right (by omega)]; simp
        have q2 : (pre ++ [b, c, d] ++ [r])[pre.length + 2]? = some d := by rw [el, List.getElem?_append_right (by omega)]; simp
        have q3 : (pre ++ [b, c, d] ++ [r])[pre.length + 3]? = some r := by rw [el, List.getElem?_append_right (by omega)]; simp
        refine iteT ⟨.ref R, rfl, .ref R, rfl, R, _, rfl, .inl (SqL.of g.r), _, 3, rfl, rfl, R, pre ++ [b, c, d] ++ [r], pre.length, _, b, c, d, r, rfl, by rw [hm, hml]; omega, .inl (SqL.of g.r), zzm, q0, q1, q2, q3, fun H2 s2 => ⟨_, rfl, ?_⟩⟩
        have g2 := g.same s2
        rw [taken_get q0 q1 q2 q3]
        by_cases tk : Taken b c d r
        · rw [decide_eq_true tk]
          refine iteT ⟨fun σ Hx => ∃ m', m' < (pre ++ [b, c, d]).length ∧ ∃ (xs : List V) (cs : List (Int × Int)) (mm : List Int), m' = mm.length ∧ σ = [some (.ref R), some (.int r), some (.ref C)] ∧ Bhd H C R xs cs (mm ++ [r]) Hx ∧ Run (m ++ [r]) cs (mm ++ [r]) ∧ NF mm, fun _ _ z => z, ?_⟩
          have eR : H2 R = some (.lst ((pre ++ [b]).map V.int ++ [V.int c, V.int d, V.int r])) := by
            rw [g2.r]
            simp [List.map_append]
          refine ⟨.ref C, rfl, .inl ⟨rfl, _, SqL.of g2.c⟩, .ref R, rfl, 3, rfl, R, _, -3, .int c, rfl, rfl, SqL.of eR, atI_last3 _ _ _ _, .ref R, rfl, 2, rfl, R, _, -2, .int d, rfl, rfl, SqL.of eR, atI_last2' _ _ _ _, c, d, rfl, fun q nq => ?_⟩
          have s3 := same_new (o := .tup [.int (rg c d).1, .int (rg c d).2]) nq
          have g3 := (g2.same s3).cyc nC0 nCR (upd_same (H := H2) (a := q) (o := .tup [.int (rg c d).1, .int (rg c d).2]))
          have hxl : xs.length ≤ 21000 := by rw [g2.pa.length]; omega
          refine ⟨C, xs, .ref q, rfl, rfl, s3 _ _ g2.c, small22000 (by omega), ?_⟩
          have eR3 : (upd (upd H2 q (.tup [.int (rg c d).1, .int (rg c d).2])) C (.lst (xs ++ [.ref q]))) R = some (.lst ((pre ++ [b]).map V.int ++ [V.int c, V.int d, V.int r])) := by
            rw [upd_ne nCR.symm]
            exact s3 _ _ eR
          refine ⟨.ref R, rfl, 3, rfl, _, rfl, 1, rfl, _, rfl, rfl, rfl, R, (pre ++ [b]).map V.int, .int c, .int d, .int r, rfl, eR3, ?_⟩
          have g4 := g3.rest nCR (pre ++ [b] ++ [r])
          have e5 : (pre ++ [b]).map V.int ++ [V.int r] = (pre ++ [b] ++ [r]).map V.int := by simp [List.map_append]
          rw [e5]
          refine ⟨(pre ++ [b]).length, by simp, _, _, pre ++ [b], rfl, rfl, g4, ?_, nf_prefix (l := [c, d]) (by simpa using nf)⟩
          refine run.snoc ?_
          rw [el, List.append_assoc]
          exact (Step.here tk).prefix pre
        · rw [decide_eq_false tk]
          refine iteF ?_
          refine ⟨.ref C, rfl, hq _ C xs cs _ g2.ch nC0 g2.c g2.pa g2.r run (nf_push nf fun pre' b' c' d' e => ?_)⟩
          have e6 : pre' ++ [b', c', d', r] = (pre' ++ [b', c', d']) ++ [r] := by simp
          rw [e6] at e
          obtain ⟨e7, _⟩ := List.append_inj' e rfl
          obtain ⟨_, e8⟩ := List.append_inj' e7 rfl
          injection e8 with h1 h2
          injection h2 with h2 h3
          injection h3 with h3 _
          subst h1 h2 h3
          exact tk
      · rw [show decide ((((mm ++ [r]).map V.int).length : Int) > 3) = false from decide_eq_false (by rw [hm]; omega)]
        refine iteF ?_
        refine iteF ?_
        refine ⟨.ref C, rfl, hq _ C xs cs _ g.ch nC0 g.c g.pa g.r run (nf_push nf fun pre' b' c' d' e => ?_)⟩
        have : (mm ++ [r]).length = (pre' ++ [b', c', d', r]).length := by rw [e]
        simp only [List.length_append, List.length_cons, List.length_nil] at this
        omega
    · rw [hl, if_pos rfl] at hm1
      obtain ⟨u, hu⟩ : ∃ u, rs0 = m ++ [u] := by
        rcases List.eq_nil_or_concat rs0 with h | ⟨m1, d, h⟩
        · rw [h] at hl; cases hl
        · refine ⟨d, ?_⟩
          rw [hm1, h]
          simp
      have eR2 : H R = some (.lst (m.map V.int ++ [V.int u])) := by rw [eR, hu]; simp
      refine iteT ⟨.ref R, rfl, .inl ⟨rfl, _, SqL.of eR⟩, R, m.map V.int ++ [V.int u], .int u, rfl, rfl, eR2, by simp, ?_⟩
      refine ⟨.ref R, rfl, .inl ⟨rfl, _, SqL.of upd_same⟩, .int r, rfl, R, m.map V.int, _, rfl, rfl, by rw [upd_same, List.dropLast_concat], by rw [List.length_map]; exact small22000 (by omega), ?_⟩
      rw [upd_upd, e1]
      refine ⟨Nat.zero_le _, fun C nC => ?_⟩
      obtain ⟨g1, nCR, nC0⟩ := start C nC
      generalize upd (upd H R (.lst ((m ++ [r]).map V.int))) C (.lst []) = Hs at g1 ⊢
      refine ⟨fun n σ Hx => ∃ (xs : List V) (cs : List (Int × Int)) (mm : List Int), n = mm.length ∧ σ = [some (.ref R), some (.int r), some (.ref C)] ∧ Bhd H C R xs cs (mm ++ [r]) Hx ∧ Run (m ++ [r]) cs (mm ++ [r]) ∧ NF mm,
        ⟨_, [], [], m, rfl, rfl, g1, .nil _, nfm⟩, ?_⟩
      clear g1
      rintro n σ Hx ⟨xs, cs, mm, rfl, rfl, g, run, nf⟩
      have hrl := run.len
      simp only [List.length_append, List.length_singleton] at hrl
      have zzm := run.zz zz1
      have hm : ((mm ++ [r]).map V.int).length = mm.length + 1 := by simp
      refine ⟨.ref R, rfl, R, _, rfl, .inl (SqL.of g.r), _, 3, rfl, rfl, _, rfl, ?_⟩
      by_cases h3 : 3 ≤ mm.length
      · rw [show decide ((((mm ++ [r]).map V.int).length : Int) > 3) = true from decide_eq_true (by rw [hm]; omega)]
        obtain ⟨pre, b, c, d, rfl⟩ := last3 h3
        have hml : (pre ++ [b, c, d]).length = pre.length + 3 := by simp
        have el : pre ++ [b, c, d] ++ [r] = pre ++ b :: c :: d :: r :: [] := by simp
        have q0 : (pre ++ [b, c, d] ++ [r])[pre.length]? = some b := by rw [el, List.getElem?_append_right (by omega)]; simp
        have q1 : (pre ++ [b, c, d] ++ [r])[pre.length + 1]? = some c := by rw [el, List.getElem?_append_right (by omega)]; simp
        have q2 : (pre ++ [b, c, d] ++ [r])[pre.length + 2]? = some d := by rw [el, List.getElem?_append_right (by omega)]; simp
        have q3 : (pre ++ [b, c, d] ++ [r])[pre.length + 3]? = some r := by rw [el, List.getElem?_append_right (by omega)]; simp
        refine iteT ⟨.ref R, rfl, .ref R, rfl, R, _, rfl, .inl (SqL.of g.r), _, 3, rfl, rfl, R, pre ++ [b, c, d] ++ [r], pre.length, _, b, c, d, r, rfl, by rw [hm, hml]; omega, .inl (SqL.of g.r), zzm, q0, q1, q2, q3, fun H2 s2 => ⟨_, rfl, ?_⟩⟩
        have g2 := g.same s2
        rw [taken_get q0 q1 q2 q3]
        by_cases tk : Taken b c d r
        · rw [decide_eq_true tk]
          refine iteT ⟨fun σ Hx => ∃ m', m' < (pre ++ [b, c, d]).length ∧ ∃ (xs : List V) (cs : List (Int × Int)) (mm : List Int), m' = mm.length ∧ σ = [some (.ref R), some (.int r), some (.ref C)] ∧ Bhd H C R xs cs (mm ++ [r]) Hx ∧ Run (m ++ [r]) cs (mm ++ [r]) ∧ NF mm, fun _ _ z => z, ?_⟩
          have eR : H2 R = some (.lst ((pre ++ [b]).map V.int ++ [V.int c, V.int d, V.int r])) := by
            rw [g2.r]
            simp [List.map_append]
          refine ⟨.ref C, rfl, .inl ⟨rfl, _, SqL.of g2.c⟩, .ref R, rfl, 3, rfl, R, _, -3, .int c, rfl, rfl, SqL.of eR, atI_last3 _ _ _ _, .ref R, rfl, 2, rfl, R, _, -2, .int d, rfl, rfl, SqL.of eR, atI_last2' _ _ _ _, c, d, rfl, fun q nq => ?_⟩
          have s3 := same_new (o := .tup [.int (rg c d).1, .int (rg c d).2]) nq
          have g3 := (g2.same s3).cyc nC0 nCR (upd_same (H := H2) (a := q) (o := .tup [.int (rg c d).1, .int (rg c d).2]))
          have hxl : xs.length ≤ 21000 := by rw [g2.pa.length]; omega
          refine ⟨C, xs, .ref q, rfl, rfl, s3 _ _ g2.c, small22000 (by omega), ?_⟩
          have eR3 : (upd (upd H2 q (.tup [.int (rg c d).1, .int (rg c d).2])) C (.lst (xs ++ [.ref q]))) R = some (.lst ((pre ++ [b]).map V.int ++ [V.int c, V.int d, V.int r])) := by
            rw [upd_ne nCR.symm]
            exact s3 _ _ eR
          refine ⟨.ref R, rfl, 3, rfl, _, rfl, 1, rfl, _, rfl, rfl, rfl, R, (pre ++ [b]).map V.int, .int c, .int d, .int r, rfl, eR3, ?_⟩
          have g4 := g3.rest nCR (pre ++ [b] ++ [r])
          have e5 : (pre ++ [b]).map V.int ++ [V.int r] = (pre ++ [b] ++ [r]).map V.int := by simp [List.map_append]
          rw [e5]
          refine ⟨(pre ++ [b]).length, by simp, _, _, pre ++ [b], rfl, rfl, g4, ?_, nf_prefix (l := [c, d]) (by simpa using nf)⟩
          refine run.snoc ?_
          rw [el, List.append_assoc]
          exact (Step.here tk).prefix pre
        · rw [decide_eq_false tk]
          refine iteF ?_
          refine ⟨.ref C, rfl, hq _ C xs cs _ g2.ch nC0 g2.c g2.pa g2.r run (nf_push nf fun pre' b' c' d' e => ?_)⟩
          have e6 : pre' ++ [b', c', d', r] = (pre' ++ [b', c', d']) ++ [r] := by simp
          rw [e6] at e
          obtain ⟨e7, _⟩ := List.append_inj' e rfl
          obtain ⟨_, e8⟩ := List.append_inj' e7 rfl
          injection e8 with h1 h2
          injection h2 with h2 h3
          injection h3 with h3 _
          subst h1 h2 h3
          exact tk
      · rw [show decide ((((mm ++ [r]).map V.int).length : Int) > 3) = false from decide_eq_false (by rw [hm]; omega)]
        refine iteF ?_
        refine iteF ?_
        refine ⟨.ref C, rfl, hq _ C xs cs _ g.ch nC0 g.c g.pa g.r run (nf_push nf fun pre' b' c' d' e => ?_)⟩
        have : (mm ++ [r]).length = (pre' ++ [b', c', d', r]).length := by rw [e]
        simp only [List.length_append, List.length_cons, List.length_nil] at this
        omega
/-- what _counted holds -/
structure Stk (H : Hp) (C R : Addr) (xs : List V) (cs : List (Int × Int)) (rs : List Int) (Hx : Hp) : Prop where
  sm : Same H Hx
  c : Hx C = some (.lst xs)
  pa : PairsAt Hx xs cs
  r : Hx R = some (.lst (rs.map V.int))
def spCoL (K : PySem.W.Frag) : Sp := fun vs H Q _ => ∃ (a : Addr) (ns : List Int), vs = [.ref a] ∧ SqL K H a (ns.map V.int) ∧ ns.length ≤ 21000 ∧
  ∀ H' p c r xs cs rs, Same H H' → H p = none → H' p = some (.tup [.ref c, .ref r]) → H' c = some (.lst xs) → PairsAt H' xs cs → H' r = some (.lst (rs.map V.int)) → Run (tp ns) cs rs → NF rs → Q (.ref p) H'
def spCoT (K : PySem.W.Frag) : Sp := fun vs H Q _ => ∃ (a : Addr) (ns : List Int), vs = [.ref a] ∧ SqT K H a (ns.map V.int) ∧ ns.length ≤ 21000 ∧
  ∀ H' p c r xs cs rs, Same H H' → H p = none → H' p = some (.tup [.ref c, .ref r]) → H' c = some (.lst xs) → PairsAt H' xs cs → H' r = some (.lst (rs.map V.int)) → Run (tp ns) cs rs → NF rs → Q (.ref p) H'
theorem ok_Col {f fB : Addr} {fd fdB : FuncData} {k : Nat} (F : Fun K "_counted" "_counted" sCo f fd)
    (GB : FnOk P w K mg base CX0 (k + 3) fB fdB ["rest", "reading"] spPB) (gB : mg "put_behind" = some (.ref fB)) (kB : PySem.W.keepIn K (.ref fB) = true) (bB : Binds K fdB ["rest", "reading"] []) :
    FnOk P w K mg base CX0 (k + 4) f fd ["load"] (spCoL K) := by
  refine F.ok scCo (fun vs H Q E h => ?_) (fun cdv A outer s H vs Q E hr h => ?_)
  · obtain ⟨a, ns, rfl, _⟩ := h
    rfl
  · obtain ⟨a, ns, rfl, hS, hlen, hq⟩ := h
    refine ⟨_, pss_cons (ps_par (i := 1) (j := 2) (by rfl) scCo.nd rfl rfl (by decide) rfl rfl (pa_cons (pe_lst pa_nil) (pa_cons (pe_lst pa_nil) pa_nil)) (by rfl))
      (pss_cons (ps_for PassesOwn.never rfl (pi_list (pv 0)) (pg_name (i := 3) scCo.nd rfl (.inl rfl))
        (pss_one (ps_expr (pe_bm PySem.F.plainAttrs_list PySem.F.slot_list_extend PySem.F.type_list_extend mt_extend (pv 1) (pa_cons (pe_call GB hr (by rfl) gB kB bB .nil pass0 (pa_cons (pv 2) (pa_cons (pv 3) pa_nil))) pa_nil)))))
      (pss_one (ps_ret (pe_tup (pa_cons (pv 1) (pa_cons (pv 2) pa_nil)))))), ?_⟩
    refine ⟨Nat.zero_le _, fun C nC => ⟨Nat.zero_le _, fun R nR => ⟨.ref C, .ref R, rfl, ?_⟩⟩⟩
    have nCR : C ≠ R := fun z => by rw [← z, upd_same] at nR; cases nR
    have nR0 : H R = none := (same_new nC).free nR
    have sm0 : Same H (upd (upd H C (.lst [])) R (.lst [])) := (same_new nC).trans (same_new nR)
    have eC0 : (upd (upd H C (.lst [])) R (.lst [])) C = some (.lst []) := by rw [upd_ne nCR, upd_same]
    have eR0 : (upd (upd H C (.lst [])) R (.lst [])) R = some (.lst []) := upd_same
    generalize upd (upd H C (.lst [])) R (.lst []) = H0 at sm0 eC0 eR0 ⊢
    have hts : ∀ i, tp (ns.take i) = tp (ns.take i) := fun _ => rfl
    refine ⟨.ref a, rfl, a, rfl, ⟨_, sm0.seq hS⟩, for_list (K := K) (a := a) (xs := ns.map V.int) (fun i σ Hx => ∃ (xs : List V) (cs : List (Int × Int)) (rs : List Int) (r3 : Option V), σ = [some (.ref a), some (.ref C), some (.ref R), r3] ∧
      Stk H C R xs cs rs Hx ∧ Run (tp (ns.take i)) cs rs ∧ NF rs) ?_ ?_ ?_ ?_⟩
    · exact ⟨[], [], [], none, rfl, ⟨sm0, eC0, trivial, eR0⟩, .nil _, fun c q s => by have := s.len; simp at this⟩
    · rintro i σ Hx _ ⟨xs, cs, rs, r3, rfl, g, _⟩
      exact g.sm.seq hS
    · rintro i x σ Hx hx ⟨xs, cs, rs, r3, rfl, g, run, nf⟩
      obtain ⟨r, hr2, rfl⟩ := int_at hx
      have hin : i < ns.length := (List.getElem?_eq_some_iff.mp hr2).1
      have hrl := run.len
      have htl := tp_len (ns.take i)
      rw [List.length_take] at htl
      have zz := run.zz (tp_zz (ns.take i))
      refine ⟨.ref C, rfl, .inl ⟨rfl, _, SqL.of g.c⟩, .ref R, rfl, .int r, rfl, R, rs, r, rfl, g.r, zz, nf, by omega, fun H2 p ys cs2 rs2 ch np ep pa2 eR2 run2 nf2 => ?_⟩
      have eC2 : H2 C = some (.lst xs) := ch _ _ nCR g.c
      have npC : p ≠ C := fun z => by rw [z, g.c] at np; cases np
      have npR : p ≠ R := fun z => by rw [z, g.r] at np; cases np
      have sm2 : Same H H2 := fun b o e => ch b o (ne_of_none e nR0) (g.sm b o e)
      have run3 := stream hr2 run run2
      have hrl3 := run3.len
      have htl3 := tp_len (ns.take (i + 1))
      rw [List.length_take] at htl3
      have hxl := g.pa.length
      have hyl := pa2.length
      rw [List.length_append] at hrl3
      refine ⟨C, p, xs, ys, rfl, rfl, eC2, ep, Nat.le_of_lt (small22000 (by omega)), _, cs ++ cs2, rs2, _, rfl, ⟨same_again nC sm2, upd_same, ?_, by rw [upd_ne nCR.symm]; exact eR2⟩, run3, nf2⟩
      exact PairsAt.append (pairs_upd eC2 (ch_pairs ch g.r g.pa)) (pairs_upd eC2 pa2)
    · rintro σ Hx ⟨xs, cs, rs, r3, rfl, g, run, nf⟩
      have et2 : ns.take (ns.map V.int).length = ns := by rw [List.length_map]; exact List.take_length
      rw [et2] at run
      refine ⟨.ref C, rfl, .ref R, rfl, by show 2 ≤ sizeLine; decide, fun p np => ?_⟩
      have sp := same_new (o := .tup [.ref C, .ref R]) np
      exact hq _ p C R xs cs rs (g.sm.trans sp) (g.sm.free np) upd_same (sp _ _ g.c) (g.pa.same sp) (sp _ _ g.r) run nf
theorem ok_Cot {f fB : Addr} {fd fdB : FuncData} {k : Nat} (F : Fun K "_counted" "_counted" sCo f fd)
    (GB : FnOk P w K mg base CX0 (k + 3) fB fdB ["rest", "reading"] spPB) (gB : mg "put_behind" = some (.ref fB)) (kB : PySem.W.keepIn K (.ref fB) = true) (bB : Binds K fdB ["rest", "reading"] []) :
    FnOk P w K mg base CX0 (k + 4) f fd ["load"] (spCoT K) := by
  refine F.ok scCo (fun vs H Q E h => ?_) (fun cdv A outer s H vs Q E hr h => ?_)
  · obtain ⟨a, ns, rfl, _⟩ := h
    rfl
  · obtain ⟨a, ns, rfl, hS, hlen, hq⟩ := h
    refine ⟨_, pss_cons (ps_par (i := 1) (j := 2) (by rfl) scCo.nd rfl rfl (by decide) rfl rfl (pa_cons (pe_lst pa_nil) (pa_cons (pe_lst pa_nil) pa_nil)) (by rfl))
      (pss_cons (ps_for PassesOwn.never rfl (pi_tup (pv 0)) (pg_name (i := 3) scCo.nd rfl (.inl rfl))
        (pss_one (ps_expr (pe_bm PySem.F.plainAttrs_list PySem.F.slot_list_extend PySem.F.type_list_extend mt_extend (pv 1) (pa_cons (pe_call GB hr (by rfl) gB kB bB .nil pass0 (pa_cons (pv 2) (pa_cons (pv 3) pa_nil))) pa_nil)))))
      (pss_one (ps_ret (pe_tup (pa_cons (pv 1) (pa_cons (pv 2) pa_nil)))))), ?_⟩
    refine ⟨Nat.zero_le _, fun C nC => ⟨Nat.zero_le _, fun R nR => ⟨.ref C, .ref R, rfl, ?_⟩⟩⟩
    have nCR : C ≠ R := fun z => by rw [← z, upd_same] at nR; cases nR
    have nR0 : H R = none := (same_new nC).free nR
    have sm0 : Same H (upd (upd H C (.lst [])) R (.lst [])) := (same_new nC).trans (same_new nR)
    have eC0 : (upd (upd H C (.lst [])) R (.lst [])) C = some (.lst []) := by rw [upd_ne nCR, upd_same]
    have eR0 : (upd (upd H C (.lst [])) R (.lst [])) R = some (.lst []) := upd_same
    generalize upd (upd H C (.lst [])) R (.lst []) = H0 at sm0 eC0 eR0 ⊢
    have hts : ∀ i, tp (ns.take i) = tp (ns.take i) := fun _ => rfl
    refine ⟨.ref a, rfl, a, rfl, ⟨_, SqT_same sm0 hS⟩, for_tup (K := K) (a := a) (xs := ns.map V.int) (fun i σ Hx => ∃ (xs : List V) (cs : List (Int × Int)) (rs : List Int) (r3 : Option V), σ = [some (.ref a), some (.ref C), some (.ref R), r3] ∧
      Stk H C R xs cs rs Hx ∧ Run (tp (ns.take i)) cs rs ∧ NF rs) ?_ ?_ ?_ ?_⟩
    · exact ⟨[], [], [], none, rfl, ⟨sm0, eC0, trivial, eR0⟩, .nil _, fun c q s => by have := s.len; simp at this⟩
    · rintro i σ Hx _ ⟨xs, cs, rs, r3, rfl, g, _⟩
      exact SqT_same g.sm hS
    · rintro i x σ Hx hx ⟨xs, cs, rs, r3, rfl, g, run, nf⟩
      obtain ⟨r, hr2, rfl⟩ := int_at hx
      have hin : i < ns.length := (List.getElem?_eq_some_iff.mp hr2).1
      have hrl := run.len
      have htl := tp_len (ns.take i)
      rw [List.length_take] at htl
      have zz := run.zz (tp_zz (ns.take i))
      refine ⟨.ref C, rfl, .inl ⟨rfl, _, SqL.of g.c⟩, .ref R, rfl, .int r, rfl, R, rs, r, rfl, g.r, zz, nf, by omega, fun H2 p ys cs2 rs2 ch np ep pa2 eR2 run2 nf2 => ?_⟩
      have eC2 : H2 C = some (.lst xs) := ch _ _ nCR g.c
      have npC : p ≠ C := fun z => by rw [z, g.c] at np; cases np
      have npR : p ≠ R := fun z => by rw [z, g.r] at np; cases np
      have sm2 : Same H H2 := fun b o e => ch b o (ne_of_none e nR0) (g.sm b o e)
      have run3 := stream hr2 run run2
      have hrl3 := run3.len
      have htl3 := tp_len (ns.take (i + 1))
      rw [List.length_take] at htl3
      have hxl := g.pa.length
      have hyl := pa2.length
      rw [List.length_append] at hrl3
      refine ⟨C, p, xs, ys, rfl, rfl, eC2, ep, Nat.le_of_lt (small22000 (by omega)), _, cs ++ cs2, rs2, _, rfl, ⟨same_again nC sm2, upd_same, ?_, by rw [upd_ne nCR.symm]; exact eR2⟩, run3, nf2⟩
      exact PairsAt.append (pairs_upd eC2 (ch_pairs ch g.r g.pa)) (pairs_upd eC2 pa2)
    · rintro σ Hx ⟨xs, cs, rs, r3, rfl, g, run, nf⟩
      have et2 : ns.take (ns.map V.int).length = ns := by rw [List.length_map]; exact List.take_length
      rw [et2] at run
      refine ⟨.ref C, rfl, .ref R, rfl, by show 2 ≤ sizeLine; decide, fun p np => ?_⟩
      have sp := same_new (o := .tup [.ref C, .ref R]) np
      exact hq _ p C R xs cs rs (g.sm.trans sp) (g.sm.free np) upd_same (sp _ _ g.c) (g.pa.same sp) (sp _ _ g.r) run nf
def spCo (K : PySem.W.Frag) : Sp := fun vs H Q _ => ∃ (a : Addr) (ns : List Int), vs = [.ref a] ∧ Sq K H a (ns.map V.int) ∧ ns.length ≤ 21000 ∧
  ∀ H' p c r xs cs rs, Same H H' → H p = none → H' p = some (.tup [.ref c, .ref r]) → H' c = some (.lst xs) → PairsAt H' xs cs → H' r = some (.lst (rs.map V.int)) → Run (tp ns) cs rs → NF rs → Q (.ref p) H'
theorem ok_Co {f fB : Addr} {fd fdB : FuncData} {k : Nat} (F : Fun K "_counted" "_counted" sCo f fd)
    (GB : FnOk P w K mg base CX0 (k + 3) fB fdB ["rest", "reading"] spPB) (gB : mg "put_behind" = some (.ref fB)) (kB : PySem.W.keepIn K (.ref fB) = true) (bB : Binds K fdB ["rest", "reading"] []) :
    FnOk P w K mg base CX0 (k + 4) f fd ["load"] (spCo K) :=
  (both (ok_Col F GB gB kB bB) (ok_Cot F GB gB kB bB)).imp fun vs H Q E ⟨a, ns, e, hs, hl, q⟩ => hs.elim (fun z => .inl ⟨a, ns, e, z, hl, q⟩) (fun z => .inr ⟨a, ns, e, z, hl, q⟩)
end
end QG

/-! counts -/
namespace QH
open PySem PySem.Spec PyProof.Rows L2 KA PH PM PA PB PC RM RN QE QF QG
abbrev sInit : Stmt := inClass sClass 0
abbrev sOf : Stmt := inClass sClass 1
abbrev sPC : Stmt := inClass sClass 4
abbrev sPR : Stmt := inClass sClass 5
abbrev sPH : Stmt := inClass sClass 6
theorem scInit : FnScope ["self", "cycles", "rest"] ["self", "cycles", "rest"] (defScope sInit) := ⟨rfl, rfl, rfl, by decide +kernel, rfl, by decide +kernel, by decide +kernel⟩
theorem scOf : FnScope ["cls", "load", "cycles", "rest"] ["cls", "load"] (defScope sOf) := ⟨rfl, rfl, rfl, by decide +kernel, rfl, by decide +kernel, by decide +kernel⟩
theorem scPC : FnScope ["self"] ["self"] (defScope sPC) := ⟨rfl, rfl, rfl, by decide +kernel, rfl, by decide +kernel, by decide +kernel⟩
theorem scPR : FnScope ["self"] ["self"] (defScope sPR) := ⟨rfl, rfl, rfl, by decide +kernel, rfl, by decide +kernel, by decide +kernel⟩
theorem scPH : FnScope ["self"] ["self"] (defScope sPH) := ⟨rfl, rfl, rfl, by decide +kernel, rfl, by decide +kernel, by decide +kernel⟩
/-! ### sorted pairs -/
/-- the pair at a ref -/
def kOf (H : Hp) : V → Int × Int
  | .ref p => match H p with
    | some (.tup [.int a, .int b]) => (a, b)
    | _ => (0, 0)
  | _ => (0, 0)
theorem kOf_at {H : Hp} {p : Addr} {r : Int × Int} (h : H p = some (.tup [.int r.1, .int r.2])) : kOf H (.ref p) = r := by
  show (match H p with | some (.tup [.int a, .int b]) => (a, b) | _ => (0, 0)) = r
  rw [h]
theorem pairs_key {H : Hp} : ∀ {xs : List V} {rs : List (Int × Int)}, PairsAt H xs rs → rs = xs.map (kOf H) ∧ ∀ x ∈ xs, ∃ t, x = V.ref t ∧ H t = some (.tup [.int (kOf H x).1, .int (kOf H x).2])
  | [], [], _ => ⟨rfl, fun _ z => (List.not_mem_nil z).elim⟩
  | x :: xs, r :: rs, ⟨⟨p, h1, h2⟩, h3⟩ => by
    obtain ⟨e, all⟩ := pairs_key h3
    subst h1
    have k := kOf_at h2
    refine ⟨by rw [List.map_cons, k, ← e], fun x hx => ?_⟩
    rcases List.mem_cons.mp hx with z | z
    · exact ⟨p, z, by rw [z, k]; exact h2⟩
    · exact all x z
  | [], _ :: _, h => h.elim
  | _ :: _, [], h => h.elim
theorem pairs_of {H : Hp} : ∀ {xs : List V}, (∀ x ∈ xs, ∃ t, x = V.ref t ∧ H t = some (.tup [.int (kOf H x).1, .int (kOf H x).2])) → PairsAt H xs (xs.map (kOf H))
  | [], _ => trivial
  | x :: xs, h => ⟨h x List.mem_cons_self, pairs_of fun y hy => h y (List.mem_cons_of_mem _ hy)⟩
theorem sorted_out {H : Hp} {xs ys : List V} {rs : List (Int × Int)} (pa : PairsAt H xs rs) (h1 : SrtO.Srtd (ltP (kOf H)) ys) (h2 : SrtO.Stb (ltP (kOf H)) ys xs) : ∃ ds, PairsAt H ys ds ∧ ds.Perm rs ∧ ds.Pairwise Le := by
  obtain ⟨e, all⟩ := pairs_key pa
  refine ⟨ys.map (kOf H), pairs_of fun y hy => all y (h2.perm.mem_iff.mp hy), by rw [e]; exact h2.perm.map _, ?_⟩
  rw [List.pairwise_map]
  refine h1.imp fun {x y} h => ?_
  have := SrtO.lexB_no.mp h
  show (kOf H x).1 < (kOf H y).1 ∨ ((kOf H x).1 = (kOf H y).1 ∧ (kOf H x).2 ≤ (kOf H y).2)
  omega
/-- cls(..), cls a parameter that holds a class -/
theorem pe_makeL {X : Cx} {CX : CXT} {k i : Nat} {C f : Addr} {fd : FuncData} {ps : List Str} {sp : Sp} {dvs : List V} {ds : List Value} {E : XK} {x : Str} {p pos : Pos} {e : Expr} {es : List Expr} {t : TA}
    (M : Mk X.K C f) (F : FnOk X.prog X.w X.K X.mg X.base CX k f fd ps sp) (hr : Room (k + 1) X.A) (hN : X.N[i]? = some x) (hv : Vis X.env.scope x) (hb : Binds X.K fd ps ds) (hd : Vals dvs ds) (hx : Passes CX X E) (ha : PA X (e :: es) t)
    (hdb : (x == ("__debug__" : Str)) = false := by decide) (hcd : (x == ("__classdict__" : Str)) = false := by decide)
    (he : starEach (e :: es) X.env = (false, eval e X.env) :: starEach es X.env := by rfl) (hpl : (backTo pos (starEach es X.env)).any (·.1) = false := by rfl) :
    PE X (.Call (.Name x p) (e :: es) [] pos) (fun σ H Q => σ[i]? = some (some (.ref C)) ∧ tMake C sp dvs E t σ H Q) := by
  refine ⟨fun pins s σ H Q I ⟨hs, ht⟩ => ?_⟩
  refine wpAny_Call_Name_kw (thn ((pe_var (pos := p) hN hv hdb hcd).run pins s σ H (fun v H1 => v = .ref C ∧ H1 = H) I ⟨.ref C, hs, rfl, rfl⟩) fun u s1 ⟨v, H1, I1, r1, e1, e2⟩ => ?_)
  subst e1 e2
  cases r1
  exact PySem.W.callWith_K (h₀ := X.base) I.ok.mod.kin M.kp (thn (ha.run pos pins s1 σ _ _ I1 ht) fun us s2 ⟨vs, H2, I2, r, q⟩ => ⟨I2.kIn, run_make M F hr hb hd hx I2 r q⟩) he hpl
/-- a count stands at x -/
def CountAt (H : Hp) (C x : Addr) (ds : List (Int × Int)) (rs : List Int) : Prop := ∃ (dx t1 t2 : Addr) (ys : List V), H x = some (.ins C dx [("_cycles", .ref t1), ("_rest", .ref t2)]) ∧ H t1 = some (.tup ys) ∧ PairsAt H ys ds ∧ H t2 = some (.tup (rs.map V.int))
theorem CountAt.same {H H' : Hp} {C x : Addr} {ds : List (Int × Int)} {rs : List Int} (h : CountAt H C x ds rs) (s : Same H H') : CountAt H' C x ds rs := by
  obtain ⟨dx, t1, t2, ys, h1, h2, h3, h4⟩ := h
  exact ⟨dx, t1, t2, ys, s _ _ h1, s _ _ h2, h3.same s, s _ _ h4⟩
/-- what of the text the class has -/
structure Cnt (K : PySem.W.Frag) (C : Addr) : Prop where
  cl : Cls K C
  nC : NoAttr K C "_cycles"
  nR : NoAttr K C "_rest"
theorem pairs_ne {H H' : Hp} {x : Addr} (k : ∀ b o, b ≠ x → H b = some o → H' b = some o) (hx : ∀ o, H x = some o → ∃ C d fs, o = .ins C d fs) : ∀ {xs : List V} {rs : List (Int × Int)}, PairsAt H xs rs → PairsAt H' xs rs
  | [], [], _ => trivial
  | y :: xs, r :: rs, ⟨⟨p, h1, h2⟩, h3⟩ => ⟨⟨p, h1, k p _ (fun z => by
      subst z
      obtain ⟨C, d, fs, e⟩ := hx _ h2
      cases e) h2⟩, pairs_ne k hx h3⟩
  | [], _ :: _, h => h.elim
  | _ :: _, [], h => h.elim
section
variable {P : Program} {w : World} {K : PySem.W.Frag} {mg : Str → Option Value} {base : Heap} {C : Addr}
def spInit (K : PySem.W.Frag) (C : Addr) : Sp := fun vs H Q _ => ∃ (x c r dx : Addr) (xs : List V) (cs : List (Int × Int)) (rs : List Int), vs = [.ref x, .ref c, .ref r] ∧ H x = some (.ins C dx []) ∧ H c = some (.lst xs) ∧ PairsAt H xs cs ∧ H r = some (.lst (rs.map V.int)) ∧
  ∀ H' ds, (∀ b o, b ≠ x → H b = some o → H' b = some o) → CountAt H' C x ds rs → ds.Perm cs → ds.Pairwise Le → Q .non H'
theorem ok_init {f : Addr} {fd : FuncData} {k : Nat} (F : Fun K "__init__" "Count.__init__" sInit f fd) (T : Cnt K C) (ms : mg "sorted" = none) (mt : mg "tuple" = none) : FnOk P w K mg base CX0 (k + 1) f fd ["self", "cycles", "rest"] (spInit K C) := by
  refine F.ok scInit (fun vs H Q E h => ?_) (fun cdv A outer s H vs Q E hr h => ?_)
  · obtain ⟨x, c, r, dx, xs, cs, rs, rfl, _⟩ := h
    rfl
  · obtain ⟨x, c, r, dx, xs, cs, rs, rfl, hx, hc, pa, hrr, hq⟩ := h
    refine ⟨_, pss_cons (ps_fld (pv 0) (pe_callTy call_tuple_of (by rfl) mt (by decide +kernel) (pa_cons (pe_callB cr_sortedPO (by rfl) ms (by decide +kernel) (pa_cons (pv 1) pa_nil)) pa_nil)) rfl)
      (pss_one (ps_fld (pv 0) (pe_callTy call_tuple_of (by rfl) mt (by decide +kernel) (pa_cons (pv 2) pa_nil)) rfl)), ?_⟩
    refine ⟨.ref c, rfl, c, xs, kOf H, rfl, SqL.of hc, (pairs_key pa).2, fun ys p h1 h2 np => ?_⟩
    obtain ⟨ds, pd, perm, srt⟩ := sorted_out pa h1 h2
    refine ⟨p, ys, rfl, .inl ⟨SqL.of upd_same, fun t1 nt1 => ?_⟩⟩
    have s1 : Same H (upd (upd H p (.lst ys)) t1 (.tup ys)) := (same_new np).trans (same_new nt1)
    have g1 := upd_same (H := upd H p (.lst ys)) (a := t1) (o := .tup ys)
    generalize upd (upd H p (.lst ys)) t1 (.tup ys) = H1 at s1 g1 ⊢
    have hx1 := s1 _ _ hx
    refine ⟨.ref x, rfl, x, C, dx, [], rfl, hx1, T.cl, T.nC, by decide, ?_⟩
    have nrx : r ≠ x := fun z => by rw [z, hx] at hrr; cases hrr
    have nt1x : t1 ≠ x := fun z => by rw [z, hx1] at g1; cases g1
    have hr1 : (upd H1 x (.ins C dx (putF "_cycles" (.ref t1) []))) r = some (.lst (rs.map V.int)) := by rw [upd_ne nrx]; exact s1 _ _ hrr
    refine ⟨.ref r, rfl, r, _, rfl, .inl ⟨SqL.of hr1, fun t2 nt2 => ?_⟩⟩
    have nt2x : t2 ≠ x := fun z => by rw [z, upd_same] at nt2; cases nt2
    have hx2 : (upd (upd H1 x (.ins C dx (putF "_cycles" (.ref t1) []))) t2 (.tup (rs.map V.int))) x = some (.ins C dx [("_cycles", .ref t1)]) := by rw [upd_ne nt2x.symm, upd_same]; rfl
    have n12 : t1 ≠ t2 := fun z => by rw [← z, upd_ne nt1x, g1] at nt2; cases nt2
    refine ⟨.ref x, rfl, x, C, dx, [("_cycles", .ref t1)], rfl, hx2, T.cl, T.nR, by show 1 < 1000; decide, ?_⟩
    have keep : ∀ b o, b ≠ x → H b = some o → (upd (upd (upd H1 x (.ins C dx (putF "_cycles" (.ref t1) []))) t2 (.tup (rs.map V.int))) x (.ins C dx (putF "_rest" (.ref t2) [("_cycles", .ref t1)]))) b = some o := fun b o nb e => by
      have e1 := s1 _ _ e
      have nb2 : b ≠ t2 := fun z => by rw [← z, upd_ne nb, e1] at nt2; cases nt2
      rw [upd_ne nb, upd_ne nb2, upd_ne nb]
      exact e1
    refine hq _ ds keep ⟨dx, t1, t2, ys, ?_, ?_, pairs_ne keep (fun o e => by rw [hx] at e; cases e; exact ⟨_, _, _, rfl⟩) pd, ?_⟩ perm srt
    · rw [upd_same]
      rfl
    · rw [upd_ne nt1x, upd_ne n12, upd_ne nt1x]
      exact g1
    · rw [upd_ne nt2x, upd_same]
def spOf (K : PySem.W.Frag) (C : Addr) : Sp := fun vs H Q _ => ∃ (a : Addr) (ns : List Int), vs = [.ref C, .ref a] ∧ Sq K H a (ns.map V.int) ∧ ns.length ≤ 21000 ∧
  ∀ H' x cs ds rs, Same H H' → H x = none → CountAt H' C x ds rs → Run (tp ns) cs rs → NF rs → ds.Perm cs → ds.Pairwise Le → Q (.ref x) H'
theorem ok_of {f fI fO : Addr} {fd fdI fdO : FuncData} {k : Nat} (F : Fun K "of" "Count.of" sOf f fd) (M : Mk K C fI)
    (GI : FnOk P w K mg base CX0 (k + 2) fI fdI ["self", "cycles", "rest"] (spInit K C)) (bI : Binds K fdI ["self", "cycles", "rest"] [])
    (GO : FnOk P w K mg base CX0 (k + 3) fO fdO ["load"] (spCo K)) (gO : mg "_counted" = some (.ref fO)) (kO : PySem.W.keepIn K (.ref fO) = true) (bO : Binds K fdO ["load"] []) : FnOk P w K mg base CX0 (k + 4) f fd ["cls", "load"] (spOf K C) := by
  refine F.ok scOf (fun vs H Q E h => ?_) (fun cdv A outer s H vs Q E hr h => ?_)
  · obtain ⟨a, ns, rfl, _⟩ := h
    rfl
  · obtain ⟨a, ns, rfl, hS, hlen, hq⟩ := h
    refine ⟨_, pss_cons (ps_asg (pe_call GO hr (by rfl) gO kO bO .nil pass0 (pa_cons (pv 1) pa_nil)) (pg_tup rfl (pgs_cons (pg_name (i := 2) scOf.nd rfl (.inl rfl)) (pgs_cons (pg_name (i := 3) scOf.nd rfl (.inl rfl)) pgs_nil))))
      (pss_one (ps_ret (pe_makeL (i := 0) M GI hr rfl (.inl rfl) bI .nil pass0 (pa_cons (pv 2) (pa_cons (pv 3) pa_nil))))), ?_⟩
    refine ⟨.ref a, rfl, a, ns, rfl, hS, hlen, fun H1 p c r xs cs rs s1 np ep ec pa er run nf => ?_⟩
    refine ⟨p, _, rfl, SqT.of ep, rfl, .ref c, [.ref r], rfl, .ref r, [], rfl, rfl, rfl, .ref c, rfl, .ref r, rfl, fun x dx nx ndx ne => ?_⟩
    have s2 : Same H1 (upd (upd H1 dx (.own x)) x (.ins C dx [])) := (same_new ndx).trans (same_new (by rw [upd_ne ne.symm]; exact nx))
    refine ⟨x, c, r, dx, xs, cs, rs, rfl, upd_same, s2 _ _ ec, pa.same s2, s2 _ _ er, fun H' ds keep ca perm srt => ⟨rfl, ?_⟩⟩
    have s3 : Same H1 H' := fun b o e => keep b o (ne_of_none e nx) (s2 _ _ e)
    exact hq H' x cs ds rs (s1.trans s3) (s1.free nx) ca run nf perm srt
def spPC (C : Addr) : Sp := fun vs H Q _ => ∃ (x : Addr) (ds : List (Int × Int)) (rs : List Int), vs = [.ref x] ∧ CountAt H C x ds rs ∧ ∀ t ys, H t = some (.tup ys) → PairsAt H ys ds → Q (.ref t) H
def spPR (C : Addr) : Sp := fun vs H Q _ => ∃ (x : Addr) (ds : List (Int × Int)) (rs : List Int), vs = [.ref x] ∧ CountAt H C x ds rs ∧ ∀ t, H t = some (.tup (rs.map V.int)) → Q (.ref t) H
theorem ok_PC {f : Addr} {fd : FuncData} {k : Nat} (F : Fun K "cycles" "Count.cycles" sPC f fd) (T : Cnt K C) : FnOk P w K mg base CX0 (k + 1) f fd ["self"] (spPC C) := by
  refine F.ok scPC (fun vs H Q E h => ?_) (fun cdv A outer s H vs Q E hr h => ?_)
  · obtain ⟨x, ds, rs, rfl, _⟩ := h
    rfl
  · obtain ⟨x, ds, rs, rfl, ⟨dx, t1, t2, ys, h1, h2, h3, h4⟩, hq⟩ := h
    refine ⟨_, pss_one (ps_ret (pe_fld (pv 0) rfl)), ?_⟩
    exact ⟨.ref x, rfl, x, C, dx, _, .ref t1, rfl, h1, T.cl, T.nC, rfl, hq t1 ys h2 h3⟩
theorem ok_PR {f : Addr} {fd : FuncData} {k : Nat} (F : Fun K "rest" "Count.rest" sPR f fd) (T : Cnt K C) : FnOk P w K mg base CX0 (k + 1) f fd ["self"] (spPR C) := by
  refine F.ok scPR (fun vs H Q E h => ?_) (fun cdv A outer s H vs Q E hr h => ?_)
  · obtain ⟨x, ds, rs, rfl, _⟩ := h
    rfl
  · obtain ⟨x, ds, rs, rfl, ⟨dx, t1, t2, ys, h1, h2, h3, h4⟩, hq⟩ := h
    refine ⟨_, pss_one (ps_ret (pe_fld (pv 0) rfl)), ?_⟩
    exact ⟨.ref x, rfl, x, C, dx, _, .ref t2, rfl, h1, T.cl, T.nR, rfl, hq t2 h4⟩
def spPH (C : Addr) : Sp := fun vs H Q _ => ∃ (x : Addr) (ds : List (Int × Int)) (rs : List Int), vs = [.ref x] ∧ CountAt H C x ds rs ∧ ds.length ≤ 21000 ∧ rs.length ≤ 21000 ∧ ZZ rs ∧ ∀ H' t ys es, Same H H' → H' t = some (.tup ys) → PairsAt H' ys es → es.Perm (ds ++ ds ++ sw rs) → es.Pairwise Le → Q (.ref t) H'
theorem ok_PH {f fS : Addr} {fd fdS : FuncData} {k : Nat} (F : Fun K "half_cycles" "Count.half_cycles" sPH f fd) (T : Cnt K C) (GS : FnOk P w K mg base CX0 (k + 3) fS fdS ["load"] (spSw K)) (gS : mg "swings" = some (.ref fS)) (kS : PySem.W.keepIn K (.ref fS) = true) (bS : Binds K fdS ["load"] [])
    (ms : mg "sorted" = none) (mt : mg "tuple" = none) : FnOk P w K mg base CX0 (k + 4) f fd ["self"] (spPH C) := by
  refine F.ok scPH (fun vs H Q E h => ?_) (fun cdv A outer s H vs Q E hr h => ?_)
  · obtain ⟨x, ds, rs, rfl, _⟩ := h
    rfl
  · obtain ⟨x, ds, rs, rfl, ⟨dx, t1, t2, ys, h1, h2, h3, h4⟩, ld, lr, zz, hq⟩ := h
    refine ⟨_, pss_one (ps_ret (pe_callTy call_tuple_of (by rfl) mt (by decide +kernel) (pa_cons (pe_callB cr_sortedPO (by rfl) ms (by decide +kernel) (pa_cons (pe_lst (StX.pa_star (pe_fld (pv 0) rfl) (StX.pa_star (pe_fld (pv 0) rfl) (StX.pa_star (pe_call GS hr (by rfl) gS kS bS .nil pass0 (pa_cons (pe_fld (pv 0) rfl) pa_nil)) pa_nil)))) pa_nil)) pa_nil))), ?_⟩
    refine ⟨.ref x, rfl, x, C, dx, _, .ref t1, rfl, h1, T.cl, T.nC, rfl, t1, ys, rfl, .inl (SqT.of h2), .ref x, rfl, x, C, dx, _, .ref t1, rfl, h1, T.cl, T.nC, rfl, t1, ys, rfl, .inl (SqT.of h2), .ref x, rfl, x, C, dx, _, .ref t2, rfl, h1, T.cl, T.nR, rfl, t2, rs, rfl, .inr (SqT.of h4), lr, fun H1 p xs s1 np ep pa => ?_⟩
    rw [zz_tp zz] at pa
    have pall : PairsAt H1 (ys ++ (ys ++ (xs ++ []))) (ds ++ ds ++ sw rs) := by
      rw [List.append_nil, List.append_assoc]
      exact (h3.same s1).append ((h3.same s1).append pa)
    refine ⟨p, xs, rfl, .inr (SqL.of ep), ?_, fun l nl => ?_⟩
    · rw [pall.length]
      simp only [List.length_append, sw_len]
      exact Nat.le_trans (show ds.length + ds.length + (rs.length - 1) ≤ 100000 by omega) (by decide)
    have s2 := same_new (o := .lst (ys ++ (ys ++ (xs ++ [])))) nl
    have pl := pall.same s2
    refine ⟨l, _, kOf _, rfl, SqL.of upd_same, (pairs_key pl).2, fun zs q g1 g2 nq => ?_⟩
    obtain ⟨es, pe, perm, srt⟩ := sorted_out pl g1 g2
    refine ⟨q, zs, rfl, .inl ⟨SqL.of upd_same, fun t nt => ?_⟩⟩
    have s3 := (same_new (o := .lst zs) nq).trans (same_new (o := .tup zs) nt)
    exact hq _ t zs es (s1.trans (s2.trans s3)) upd_same (pe.same s3) perm srt
end
end QH

/-! changes of a load, as mathematics -/
namespace KM
/-- how often a letter differs from the one before, the first of all being a -/
def cf : Bool → List Bool → Nat
  | _, [] => 0
  | a, b :: r => (if a = b then 0 else 1) + cf b r
def cnt : List Bool → Nat
  | [] => 0
  | a :: r => cf a r
def cfO : Option Bool → List Bool → Nat
  | none, l => cnt l
  | some a, l => cf a l
/-- the letter of a reading: true for L -/
def lett (lo hi : Int) (r : Int) : Option Bool := if r ≤ lo then some true else if hi ≤ r then some false else none
def lets (lo hi : Int) (ns : List Int) : List Bool := ns.filterMap (lett lo hi)
def chg (ns : List Int) (lo hi : Int) : Nat := cnt (lets lo hi ns)
theorem cf_tri (a b : Bool) : ∀ l : List Bool, cf a l ≤ (if a = b then 0 else 1) + cf b l
  | [] => Nat.zero_le _
  | c :: r => by
    simp only [cf]
    cases a <;> cases b <;> cases c <;> simp <;> omega
theorem cf_mono : ∀ {l m : List Bool}, l.Sublist m → ∀ a, cf a l ≤ cf a m := by
  intro l m h
  induction h with
  | slnil => intro a; exact Nat.le_refl _
  | @cons l m b h ih =>
    intro a
    have h1 := cf_tri a b l
    have h2 := ih b
    simp only [cf]
    omega
  | @cons_cons l m b h ih =>
    intro a
    have h2 := ih b
    simp only [cf]
    omega
theorem cnt_mono : ∀ {l m : List Bool}, l.Sublist m → cnt l ≤ cnt m := by
  intro l m h
  induction h with
  | slnil => exact Nat.le_refl _
  | @cons l m b h ih =>
    cases m with
    | nil =>
      cases h
      exact Nat.le_refl _
    | cons d r =>
      show cnt l ≤ (if b = d then 0 else 1) + cf d r
      have : cnt (d :: r) = cf d r := rfl
      omega
  | @cons_cons l m b h ih => exact cf_mono h b
theorem lets_sub {lo hi lo2 hi2 : Int} (h1 : lo ≤ lo2) (h2 : hi2 ≤ hi) (h3 : lo2 < hi2) : ∀ ns : List Int, (lets lo hi ns).Sublist (lets lo2 hi2 ns)
  | [] => .slnil
  | r :: t => by
    have ih := lets_sub h1 h2 h3 t
    have key : lett lo hi r = none ∨ lett lo hi r = lett lo2 hi2 r := by
      unfold lett
      by_cases a : r ≤ lo
      · right
        rw [if_pos a, if_pos (by omega)]
      · rw [if_neg a]
        by_cases b : hi ≤ r
        · right
          rw [if_pos b, if_neg (by omega), if_pos (by omega)]
        · left
          rw [if_neg b]
    show ((r :: t).filterMap (lett lo hi)).Sublist ((r :: t).filterMap (lett lo2 hi2))
    rw [List.filterMap_cons, List.filterMap_cons]
    rcases key with e | e
    · rw [e]
      dsimp only
      cases lett lo2 hi2 r with
      | none => exact ih
      | some b => exact .cons _ ih
    · rw [← e]
      cases lett lo hi r with
      | none => exact ih
      | some b => exact .cons_cons _ ih
theorem chg_range {lo hi lo2 hi2 : Int} (h1 : lo ≤ lo2) (h2 : hi2 ≤ hi) (h3 : lo2 < hi2) (ns : List Int) : chg ns lo hi ≤ chg ns lo2 hi2 := cnt_mono (lets_sub h1 h2 h3 ns)
theorem chg_sub {l m : List Int} (h : l.Sublist m) (lo hi : Int) : chg l lo hi ≤ chg m lo hi := cnt_mono (h.filterMap _)
theorem chg_put (ns : List Int) (k : Nat) (v lo hi : Int) : chg ns lo hi ≤ chg (ns.take k ++ [v] ++ ns.drop k) lo hi := by
  refine chg_sub ?_ lo hi
  have e : ns = ns.take k ++ ns.drop k := (List.take_append_drop k ns).symm
  have h1 : (ns.take k).Sublist (ns.take k ++ [v]) := List.sublist_append_left _ _
  have h2 := h1.append (List.Sublist.refl (ns.drop k))
  rw [List.take_append_drop] at h2
  exact h2
theorem lets_drop {lo hi : Int} {ns : List Int} {i : Nat} {r : Int} (h : ns[i]? = some r) : lets lo hi (ns.drop i) = (match lett lo hi r with | none => lets lo hi (ns.drop (i + 1)) | some b => b :: lets lo hi (ns.drop (i + 1))) := by
  obtain ⟨h1, h2⟩ := List.getElem?_eq_some_iff.mp h
  rw [List.drop_eq_getElem_cons h1, h2]
  unfold lets
  rw [List.filterMap_cons]
  cases lett lo hi r <;> rfl
theorem lets_take {lo hi : Int} {ns : List Int} {i : Nat} {r : Int} (h : ns[i]? = some r) : lets lo hi (ns.take (i + 1)) = (match lett lo hi r with | none => lets lo hi (ns.take i) | some b => lets lo hi (ns.take i) ++ [b]) := by
  rw [List.take_add_one, h]
  unfold lets
  rw [List.filterMap_append]
  show _ ++ List.filterMap _ [r] = _
  rw [List.filterMap_cons]
  cases lett lo hi r with
  | none => simp
  | some b => rfl
theorem lets_len (lo hi : Int) (ns : List Int) : (lets lo hi ns).length ≤ ns.length := List.length_filterMap_le _ _
/-- the number of turns of a zip with itself, one on, whose two differ -/
theorem cnt_drop {l : List Bool} {i : Nat} {a b : Bool} (h1 : l[i]? = some a) (h2 : l[i + 1]? = some b) : cnt (l.drop i) = (if a = b then 0 else 1) + cnt (l.drop (i + 1)) := by
  obtain ⟨k1, e1⟩ := List.getElem?_eq_some_iff.mp h1
  obtain ⟨k2, e2⟩ := List.getElem?_eq_some_iff.mp h2
  rw [List.drop_eq_getElem_cons k1, e1, List.drop_eq_getElem_cons k2, e2]
  rfl
theorem cnt_end {l : List Bool} {i : Nat} (h : l.length ≤ i + 1) : cnt (l.drop i) = 0 := by
  have : (l.drop i).length ≤ 1 := by rw [List.length_drop]; omega
  match l.drop i, this with
  | [], _ => rfl
  | [_], _ => rfl
end KM

/-! changes decide the half-cycles, as mathematics -/
namespace RC
open KM PM RM RN
/-- a range holds another one -/
def hl (lo hi : Int) (r : Int × Int) : Bool := decide (r.1 ≤ lo) && decide (hi ≤ r.2)
def nh (lo hi : Int) (rs : List (Int × Int)) : Nat := rs.countP (hl lo hi)
def b1 (b : Bool) : Nat := if b = true then 1 else 0
theorem nh_cons (lo hi : Int) (r : Int × Int) (rs : List (Int × Int)) : nh lo hi (r :: rs) = b1 (hl lo hi r) + nh lo hi rs := by
  unfold nh b1
  rw [List.countP_cons]
  omega
theorem nh_app (lo hi : Int) (rs ss : List (Int × Int)) : nh lo hi (rs ++ ss) = nh lo hi rs + nh lo hi ss := List.countP_append
theorem nh_perm {lo hi : Int} {rs ss : List (Int × Int)} (h : rs.Perm ss) : nh lo hi rs = nh lo hi ss := h.countP_eq _
/-- a letter is read, some before -/
def cl (lo hi : Int) (o : Option Bool) (ns : List Int) : Nat := cfO o (lets lo hi ns)
def d2 (o : Option Bool) (b : Bool) : Nat := match o with
  | none => 0
  | some a => if a = b then 0 else 1
theorem cl_nil (lo hi : Int) (o : Option Bool) : cl lo hi o [] = 0 := by cases o <;> rfl
theorem cl_cons (lo hi : Int) (o : Option Bool) (x : Int) (ns : List Int) : cl lo hi o (x :: ns) = match lett lo hi x with
    | none => cl lo hi o ns
    | some b => d2 o b + cl lo hi (some b) ns := by
  unfold cl lets
  rw [List.filterMap_cons]
  cases lett lo hi x with
  | none => rfl
  | some b =>
    cases o with
    | none => show cf b _ = 0 + cf b _; omega
    | some a => rfl
theorem lett_lo {lo hi x : Int} (h : x ≤ lo) : lett lo hi x = some true := if_pos h
theorem lett_hi {lo hi x : Int} (h0 : lo < hi) (h : hi ≤ x) : lett lo hi x = some false := by unfold lett; rw [if_neg (by omega), if_pos h]
theorem lett_no {lo hi x : Int} (h1 : lo < x) (h2 : x < hi) : lett lo hi x = none := by unfold lett; rw [if_neg (by omega), if_neg (by omega)]
theorem lett3 (lo hi x : Int) (h0 : lo < hi) : (x ≤ lo ∧ lett lo hi x = some true) ∨ (hi ≤ x ∧ lett lo hi x = some false) ∨ (lo < x ∧ x < hi ∧ lett lo hi x = none) := by
  by_cases a : x ≤ lo
  · exact .inl ⟨a, lett_lo a⟩
  · by_cases b : hi ≤ x
    · exact .inr (.inl ⟨b, lett_hi h0 b⟩)
    · exact .inr (.inr ⟨by omega, by omega, lett_no (by omega) (by omega)⟩)
theorem hl_iff {lo hi : Int} {a b : Int} : hl lo hi (a, b) = decide (a ≤ lo ∧ hi ≤ b) := by
  unfold hl
  by_cases h1 : a ≤ lo <;> by_cases h2 : hi ≤ b <;> simp [h1, h2]
theorem four_up {lo hi a b c d : Int} (h0 : lo < hi) (post : List Int) (o : Option Bool) (h1 : a ≤ c) (h2 : c < b) (h3 : b ≤ d) : cl lo hi o (a :: b :: c :: d :: post) = cl lo hi o (a :: d :: post) + 2 * b1 (hl lo hi (c, b)) := by
  rw [hl_iff]
  simp only [cl_cons]
  rcases lett3 lo hi a h0 with ⟨x1, e1⟩ | ⟨x1, e1⟩ | ⟨x1, y1, e1⟩ <;> rcases lett3 lo hi b h0 with ⟨x2, e2⟩ | ⟨x2, e2⟩ | ⟨x2, y2, e2⟩ <;> rcases lett3 lo hi c h0 with ⟨x3, e3⟩ | ⟨x3, e3⟩ | ⟨x3, y3, e3⟩ <;> rcases lett3 lo hi d h0 with ⟨x4, e4⟩ | ⟨x4, e4⟩ | ⟨x4, y4, e4⟩ <;> first
    | (exfalso; omega)
    | (rw [decide_eq_true (by omega), e1, e2, e3, e4]; simp only [d2, b1]; cases o with
        | none => simp <;> omega
        | some p => cases p <;> simp <;> omega)
    | (rw [decide_eq_false (by omega), e1, e2, e3, e4]; simp only [d2, b1]; cases o with
        | none => simp
        | some p => cases p <;> simp)
theorem four_down {lo hi a b c d : Int} (h0 : lo < hi) (post : List Int) (o : Option Bool) (h1 : c ≤ a) (h2 : b < c) (h3 : d ≤ b) : cl lo hi o (a :: b :: c :: d :: post) = cl lo hi o (a :: d :: post) + 2 * b1 (hl lo hi (b, c)) := by
  rw [hl_iff]
  simp only [cl_cons]
  rcases lett3 lo hi a h0 with ⟨x1, e1⟩ | ⟨x1, e1⟩ | ⟨x1, y1, e1⟩ <;> rcases lett3 lo hi b h0 with ⟨x2, e2⟩ | ⟨x2, e2⟩ | ⟨x2, y2, e2⟩ <;> rcases lett3 lo hi c h0 with ⟨x3, e3⟩ | ⟨x3, e3⟩ | ⟨x3, y3, e3⟩ <;> rcases lett3 lo hi d h0 with ⟨x4, e4⟩ | ⟨x4, e4⟩ | ⟨x4, y4, e4⟩ <;> first
    | (exfalso; omega)
    | (rw [decide_eq_true (by omega), e1, e2, e3, e4]; simp only [d2, b1]; cases o with
        | none => simp <;> omega
        | some p => cases p <;> simp <;> omega)
    | (rw [decide_eq_false (by omega), e1, e2, e3, e4]; simp only [d2, b1]; cases o with
        | none => simp
        | some p => cases p <;> simp)
theorem cl_step {lo hi : Int} (h0 : lo < hi) {p q : List Int} {c : Int × Int} (h : Step p c q) : ZZ p → ∀ o, cl lo hi o p = cl lo hi o q + 2 * b1 (hl lo hi c) := by
  induction h with
  | @here a b c d post t =>
    intro z o
    rcases (taken_iff z.four).mp t with ⟨x1, x2, x3, x4, x5⟩ | ⟨x1, x2, x3, x4, x5⟩
    · rw [rg_down x2]; exact four_up h0 post o x4 x2 x5
    · rw [rg_up x2]; exact four_down h0 post o x4 x2 x5
  | @there x p q cy s ih =>
    intro z o
    rw [cl_cons, cl_cons]
    cases lett lo hi x with
    | none => exact ih z.tail o
    | some b =>
      have := ih z.tail (some b)
      show d2 o b + cl lo hi (some b) p = d2 o b + cl lo hi (some b) q + _
      omega
theorem cl_run {lo hi : Int} (h0 : lo < hi) {p q : List Int} {cs : List (Int × Int)} (h : Run p cs q) : ZZ p → ∀ o, cl lo hi o p = cl lo hi o q + 2 * nh lo hi cs := by
  induction h with
  | nil p => intro _ o; rfl
  | cons s _ ih =>
    intro z o
    rw [cl_step h0 s z o, ih (ZZ.step s z) o, nh_cons]
    omega
/-! the load and its turning points -/
theorem cl_same {lo hi : Int} (o : Option Bool) (a : Int) (l : List Int) : cl lo hi o (a :: a :: l) = cl lo hi o (a :: l) := by
  simp only [cl_cons]
  cases lett lo hi a with
  | none => rfl
  | some b => simp [d2]
theorem cl_btw {lo hi : Int} (h0 : lo < hi) (o : Option Bool) {b a r : Int} (l : List Int) (h : Btw a b r) : cl lo hi o (b :: a :: r :: l) = cl lo hi o (b :: r :: l) := by
  simp only [cl_cons]
  rcases lett3 lo hi a h0 with ⟨x1, e1⟩ | ⟨x1, e1⟩ | ⟨x1, y1, e1⟩ <;> rcases lett3 lo hi b h0 with ⟨x2, e2⟩ | ⟨x2, e2⟩ | ⟨x2, y2, e2⟩ <;> rcases lett3 lo hi r h0 with ⟨x3, e3⟩ | ⟨x3, e3⟩ | ⟨x3, y3, e3⟩ <;> first
    | (exfalso; omega)
    | (rw [e1, e2, e3]; done)
    | (rw [e1, e2, e3]; cases o with
        | none => simp [d2]
        | some p => cases p <;> simp [d2])
theorem cl_tq {lo hi : Int} (h0 : lo < hi) : ∀ (l : List Int) (o : Option Bool) (b a : Int), cl lo hi o (b :: tq b a l) = cl lo hi o (b :: a :: l)
  | [], _, _, _ => rfl
  | r :: l, o, b, a => by
    simp only [tq]
    by_cases e : a = r
    · rw [if_pos e, cl_tq h0 l o b a, ← e, cl_cons lo hi o b (a :: a :: l), cl_cons lo hi o b (a :: l)]
      cases lett lo hi b with
      | none => exact (cl_same _ _ _).symm
      | some x => exact congrArg _ (cl_same _ _ _).symm
    · rw [if_neg e]
      by_cases bt : Btw a b r
      · rw [if_pos bt, cl_tq h0 l o b r, cl_btw h0 o l bt]
      · rw [if_neg bt, cl_cons lo hi o b (a :: tq a r l), cl_cons lo hi o b (a :: r :: l)]
        cases lett lo hi b with
        | none => exact cl_tq h0 l o a r
        | some x => exact congrArg (d2 o x + ·) (cl_tq h0 l (some x) a r)
theorem cl_ts {lo hi : Int} (h0 : lo < hi) : ∀ (l : List Int) (o : Option Bool) (a : Int), cl lo hi o (ts a l) = cl lo hi o (a :: l)
  | [], _, _ => rfl
  | r :: l, o, a => by
    simp only [ts]
    by_cases e : a = r
    · rw [if_pos e, cl_ts h0 l o a, ← e, cl_same]
    · rw [if_neg e, cl_tq h0 l o a r]
theorem cl_tp {lo hi : Int} (h0 : lo < hi) (ns : List Int) : cl lo hi none (tp ns) = chg ns lo hi := by
  cases ns with
  | nil => rfl
  | cons a l => exact cl_ts h0 l none a
/-! the rest: swings that grow and then shrink -/
def In (u v : Int) (ps : List Int) : Prop := ∀ x ∈ ps, u ≤ x ∧ x ≤ v
/-- each swing within the one before -/
def Con : List Int → Prop
  | x :: y :: z :: r => ((y < x ∧ y < z ∧ z ≤ x) ∨ (x < y ∧ z < y ∧ x ≤ z)) ∧ Con (y :: z :: r)
  | _ => True
theorem Con.inside : ∀ {r : List Int} {x y : Int}, Con (x :: y :: r) → x ≠ y → In (if x < y then x else y) (if x < y then y else x) (x :: y :: r)
  | [], x, y, _, h => by
    intro w hw
    rcases List.mem_cons.mp hw with e | hw
    · subst e; split <;> omega
    · rcases List.mem_cons.mp hw with e | hw
      · subst e; split <;> omega
      · exact absurd hw (List.not_mem_nil)
  | z :: r, x, y, c, h => by
    have ih := Con.inside c.2 (by have := c.1; omega)
    intro w hw
    have c1 := c.1
    rcases List.mem_cons.mp hw with e | hw
    · subst e; split <;> omega
    · have := ih w hw
      by_cases e1 : y < z
      · rw [if_pos e1, if_pos e1] at this
        rw [if_neg (by omega), if_neg (by omega)]
        omega
      · rw [if_neg e1, if_neg e1] at this
        rw [if_pos (by omega), if_pos (by omega)]
        omega
theorem nf_con : ∀ {r : List Int} {x y z : Int}, ZZ (x :: y :: z :: r) → NF (x :: y :: z :: r) → ((y < x ∧ z ≤ x) ∨ (x < y ∧ x ≤ z)) → Con (x :: y :: z :: r)
  | [], x, y, z, zz, _, h => ⟨by have := zz.1; omega, trivial⟩
  | w :: r, x, y, z, zz, n, h => by
    have z1 := zz.1
    have z2 := zz.2.1
    refine ⟨by omega, nf_con zz.2 (fun c q s => n _ _ (.there s)) ?_⟩
    have nt : ¬ Taken x y z w := fun t => n _ _ (.here t)
    rw [taken_iff zz.four] at nt
    omega
theorem one_letter {lo hi : Int} {b : Bool} : ∀ (l : List Int) (o : Option Bool), (o = none ∨ o = some b) → (∀ x ∈ l, lett lo hi x = none ∨ lett lo hi x = some b) → cl lo hi o l = 0
  | [], o, _, _ => cl_nil lo hi o
  | x :: l, o, h1, h2 => by
    have ih := fun o h => one_letter l o h (fun x hx => h2 x (List.mem_cons_of_mem _ hx))
    rw [cl_cons]
    rcases h2 x List.mem_cons_self with e | e
    · rw [e]; exact ih o h1
    · rw [e]
      show d2 o b + cl lo hi (some b) l = 0
      rw [ih _ (.inr rfl)]
      rcases h1 with e | e
      · rw [e]; rfl
      · rw [e]; simp [d2]
theorem con_one {lo hi x y : Int} (h0 : lo < hi) {r : List Int} (h : In (if x < y then x else y) (if x < y then y else x) (x :: y :: r)) (ne : x ≠ y) : cl lo hi none (x :: y :: r) = b1 (hl lo hi (rg x y)) + cl lo hi none (y :: r) := by
  have out : ∀ u v, u < v → In u v (x :: y :: r) → hl lo hi (u, v) = false → cl lo hi none (x :: y :: r) = 0 ∧ cl lo hi none (y :: r) = 0 := by
    intro u v huv hin hn
    rw [hl_iff] at hn
    have hn := of_decide_eq_false hn
    by_cases a : u ≤ lo
    · have hb : v < hi := by omega
      have key : ∀ w ∈ x :: y :: r, lett lo hi w = none ∨ lett lo hi w = some true := fun w hw => by
        have := hin w hw
        rcases lett3 lo hi w h0 with ⟨_, e⟩ | ⟨z, e⟩ | ⟨_, _, e⟩
        · exact .inr e
        · omega
        · exact .inl e
      exact ⟨one_letter _ _ (.inl rfl) key, one_letter _ _ (.inl rfl) fun w hw => key w (List.mem_cons_of_mem _ hw)⟩
    · have key : ∀ w ∈ x :: y :: r, lett lo hi w = none ∨ lett lo hi w = some false := fun w hw => by
        have := hin w hw
        rcases lett3 lo hi w h0 with ⟨z, e⟩ | ⟨z, e⟩ | ⟨_, _, e⟩
        · omega
        · exact .inr e
        · exact .inl e
      exact ⟨one_letter _ _ (.inl rfl) key, one_letter _ _ (.inl rfl) fun w hw => key w (List.mem_cons_of_mem _ hw)⟩
  rcases (show x < y ∨ y < x by omega) with h1 | h1
  · rw [if_pos h1, if_pos h1] at h
    rw [rg_up h1]
    cases e : hl lo hi (x, y) with
    | false => obtain ⟨e1, e2⟩ := out x y h1 h e; rw [e1, e2]; rfl
    | true =>
      rw [hl_iff] at e
      have e := of_decide_eq_true e
      rw [cl_cons lo hi none x, cl_cons lo hi none y, lett_lo e.1, lett_hi h0 e.2]
      show d2 none true + cl lo hi (some true) (y :: r) = b1 true + (d2 none false + cl lo hi (some false) r)
      rw [cl_cons, lett_hi h0 e.2]
      simp [d2, b1]
  · rw [if_neg (by omega), if_neg (by omega)] at h
    rw [rg_down h1]
    cases e : hl lo hi (y, x) with
    | false => obtain ⟨e1, e2⟩ := out y x h1 h e; rw [e1, e2]; rfl
    | true =>
      rw [hl_iff] at e
      have e := of_decide_eq_true e
      rw [cl_cons lo hi none x, cl_cons lo hi none y, lett_lo e.1, lett_hi h0 e.2]
      show d2 none false + cl lo hi (some false) (y :: r) = b1 true + (d2 none true + cl lo hi (some true) r)
      rw [cl_cons, lett_lo e.1]
      simp [d2, b1]
theorem wide_one {lo hi x y z : Int} (h0 : lo < hi) {r : List Int} (h : (y < x ∧ x < z) ∨ (x < y ∧ z < x)) : cl lo hi none (x :: y :: z :: r) = b1 (hl lo hi (rg x y)) + cl lo hi none (y :: z :: r) := by
  rcases h with ⟨h1, h2⟩ | ⟨h1, h2⟩
  · rw [rg_down h1, hl_iff]
    simp only [cl_cons]
    rcases lett3 lo hi x h0 with ⟨x1, e1⟩ | ⟨x1, e1⟩ | ⟨x1, y1, e1⟩ <;> rcases lett3 lo hi y h0 with ⟨x2, e2⟩ | ⟨x2, e2⟩ | ⟨x2, y2, e2⟩ <;> rcases lett3 lo hi z h0 with ⟨x3, e3⟩ | ⟨x3, e3⟩ | ⟨x3, y3, e3⟩ <;> first
      | (exfalso; omega)
      | (rw [decide_eq_true (by omega), e1, e2, e3]; simp [d2, b1]; done)
      | (rw [decide_eq_false (by omega), e1, e2, e3]; simp [d2, b1]; done)
  · rw [rg_up h1, hl_iff]
    simp only [cl_cons]
    rcases lett3 lo hi x h0 with ⟨x1, e1⟩ | ⟨x1, e1⟩ | ⟨x1, y1, e1⟩ <;> rcases lett3 lo hi y h0 with ⟨x2, e2⟩ | ⟨x2, e2⟩ | ⟨x2, y2, e2⟩ <;> rcases lett3 lo hi z h0 with ⟨x3, e3⟩ | ⟨x3, e3⟩ | ⟨x3, y3, e3⟩ <;> first
      | (exfalso; omega)
      | (rw [decide_eq_true (by omega), e1, e2, e3]; simp [d2, b1]; done)
      | (rw [decide_eq_false (by omega), e1, e2, e3]; simp [d2, b1]; done)
theorem nf_nh {lo hi : Int} (h0 : lo < hi) : ∀ (ps : List Int), ZZ ps → NF ps → cl lo hi none ps = nh lo hi (sw ps)
  | [], _, _ => rfl
  | [x], _, _ => by
    rw [cl_cons]
    cases lett lo hi x <;> rfl
  | [x, y], zz, _ => by
    have zz : x ≠ y := zz
    show _ = nh lo hi [rg x y]
    rw [nh_cons, con_one h0 (Con.inside (r := []) (x := x) (y := y) (show Con [x, y] from trivial) zz) zz]
    show _ + cl lo hi none [y] = _ + 0
    rw [cl_cons]
    cases lett lo hi y <;> rfl
  | x :: y :: z :: r, zz, n => by
    have ih := nf_nh h0 (y :: z :: r) zz.2 (fun c q s => n _ _ (.there s))
    show _ = nh lo hi (rg x y :: sw (y :: z :: r))
    rw [nh_cons, ← ih]
    have z1 := zz.1
    by_cases h : (y < x ∧ z ≤ x) ∨ (x < y ∧ x ≤ z)
    · exact con_one h0 (Con.inside (nf_con zz n h) (by omega)) (by omega)
    · exact wide_one h0 (by omega)
/-- the changes of a load are the half-cycles that hold the range -/
theorem chg_count {lo hi : Int} (h0 : lo < hi) {ns rs : List Int} {cs : List (Int × Int)} (h : Run (tp ns) cs rs) (n : NF rs) : chg ns lo hi = 2 * nh lo hi cs + nh lo hi (sw rs) := by
  rw [← cl_tp h0, cl_run h0 h (tp_zz ns), nf_nh h0 rs (h.zz (tp_zz ns)) n]
  omega
/-! just a range: the second difference -/
theorem just_one (lo hi : Int) (r : Int × Int) : b1 (decide (r = (lo, hi))) + b1 (hl (lo - 1) hi r) + b1 (hl lo (hi + 1) r) = b1 (hl lo hi r) + b1 (hl (lo - 1) (hi + 1) r) := by
  obtain ⟨u, v⟩ := r
  simp only [hl_iff]
  have e : decide ((u, v) = (lo, hi)) = decide (u = lo ∧ v = hi) := by simp
  rw [e]
  simp only [b1, decide_eq_true_eq]
  repeat' split
  all_goals omega
theorem just {lo hi : Int} : ∀ rs : List (Int × Int), rs.count (lo, hi) + nh (lo - 1) hi rs + nh lo (hi + 1) rs = nh lo hi rs + nh (lo - 1) (hi + 1) rs
  | [] => rfl
  | r :: rs => by
    have ih := just (lo := lo) (hi := hi) rs
    have h1 := just_one lo hi r
    rw [nh_cons, nh_cons, nh_cons, nh_cons, List.count_cons]
    have e : (if (r == (lo, hi)) = true then 1 else 0) = b1 (decide (r = (lo, hi))) := by
      unfold b1
      by_cases z : r = (lo, hi)
      · simp [z]
      · simp [z]
    rw [e]
    omega
end RC

/-! changes of a load -/
namespace QJ
open PySem PySem.Spec PyProof.Rows L2 KA KM PH
/-! ### letters -/
def ltr (b : Bool) : V := .str (if b = true then ("L" : Str) else ("H" : Str))
theorem ltr_scal (a b : Bool) : scal (ltr a) (ltr b) = true := by cases a <;> cases b <;> rfl
theorem ltr_eq (a b : Bool) : decide (ltr a = ltr b) = decide (a = b) := by
  cases a <;> cases b <;> first | rfl | decide +kernel
theorem cut1 (xs : List V) : cutV xs (some 1) none = xs.drop 1 := by
  unfold cutV
  rw [show HT.sIx xs.length 0 (some 1) = min 1 xs.length from HT.sIx_nat xs.length 0 1, HT.sIx_none]
  cases xs with
  | nil => rfl
  | cons x r =>
    have : min 1 (x :: r).length = 1 := by simp
    rw [this]
    simp
end QJ

/-! changes of a count -/
namespace QK
open PySem PySem.Spec PyProof.Rows L2 KA PH PM PA PB PC RM RN RC QE QF QG QH
abbrev sPG : Stmt := inClass sClass 7
theorem scPG : FnScope ["self", "low", "high", "outer"] ["self", "low", "high"] (defScope sPG) := ⟨rfl, rfl, rfl, by decide +kernel, rfl, by decide +kernel, by decide +kernel⟩
theorem pairs_get {H : Hp} : ∀ {xs : List V} {rs : List (Int × Int)} {i : Nat} {x : V}, PairsAt H xs rs → xs[i]? = some x → ∃ p r, x = .ref p ∧ rs[i]? = some r ∧ H p = some (.tup [.int r.1, .int r.2])
  | x :: xs, r :: rs, 0, y, ⟨⟨p, h1, h2⟩, _⟩, e => ⟨p, r, by rw [← h1]; exact (Option.some.inj e).symm, rfl, h2⟩
  | x :: xs, r :: rs, i + 1, y, ⟨_, h⟩, e => pairs_get (xs := xs) (rs := rs) (i := i) h e
  | [], [], _, _, _, e => by simp at e
  | [], _ :: _, _, _, h, _ => h.elim
  | _ :: _, [], _, _, h, _ => h.elim
section
variable {P : Program} {w : World} {K : PySem.W.Frag} {mg : Str → Option Value} {base : Heap}
def spPG (C : Addr) : Sp := fun vs H Q _ => ∃ (x : Addr) (ds : List (Int × Int)) (rs : List Int) (lo hi : Int), vs = [.ref x, .int lo, .int hi] ∧ CountAt H C x ds rs ∧ ds.length ≤ 21000 ∧ rs.length ≤ 21000 ∧ ZZ rs ∧ ∀ H', Same H H' → Q (.int ((2 * nh lo hi ds + nh lo hi (sw rs) : Nat) : Int)) H'
theorem nh_take {lo hi : Int} {rs : List (Int × Int)} {i : Nat} {r : Int × Int} (h : rs[i]? = some r) : nh lo hi (rs.take (i + 1)) = nh lo hi (rs.take i) + b1 (hl lo hi r) := by
  rw [List.take_add_one, h, nh_app]
  show _ + nh lo hi [r] = _
  rw [nh_cons]
  rfl
theorem ok_PG {C p3 f fH fC : Addr} {fd dH fdC : FuncData} {k : Nat} (F : Fun K "changes" "Count.changes" sPG f fd) (T : Cnt K C) (prH : PropOf K C "half_cycles" p3 fH)
    (GH : FnOk P w K mg base CX0 (k + 4) fH dH ["self"] (spPH C)) (bH : Binds K dH ["self"] [])
    (GC : FnOk P w K mg base CX0 (k + 1) fC fdC ["outer", "inner"] (spCont K)) (gC : mg "contains" = some (.ref fC)) (kC : PySem.W.keepIn K (.ref fC) = true) (bC : Binds K fdC ["outer", "inner"] [])
    (ml : mg "len" = none) : FnOk P w K mg base CX0 (k + 6) f fd ["self", "low", "high"] (spPG C) := by
  refine F.ok scPG (fun vs H Q E h => ?_) (fun cdv A outer s H vs Q E hr h => ?_)
  · obtain ⟨x, ds, rs, lo, hi, rfl, _⟩ := h
    rfl
  · obtain ⟨x, ds, rs, lo, hi, rfl, hc, ld, lr, zz, hq⟩ := h
    refine ⟨_, pss_one (ps_ret (pe_callB call_len_seq (by rfl) ml PySem.boot_len (pa_cons (pe_lc (own := [("outer", 3)]) (g := gName 3) (tt := tB (tCall (spCont K) [] E0 (tCons (tVar 3) (tCons (tTup (tCons (tVar 1) (tCons (tVar 2) tNil))) tNil)))) (te := tVar 3) rfl scPG.nd
        (pi_tup (pe_prop (pv 0) T.cl prH GH hr bH .nil pass0 (by rfl)))
        (blkOk_by (own := [("outer", 3)]) (N := ["self", "low", "high", "outer"]) (sc := defScope sPG) (by decide +kernel)) (fun _ _ _ _ _ => pg_name (i := 3) scPG.nd rfl (Or.inl rfl) (Or.inr rfl))
        (fun _ _ _ _ _ => pts_one (pt_val (pe_call GC (hr.mono (by omega)) (by rfl) gC kC bC .nil pass0 (pa_cons (pv 3) (pa_cons (pe_tup (pa_cons (pv 1) (pa_cons (pv 2) pa_nil))) pa_nil))))) (fun _ _ _ _ _ => pv 3)) pa_nil))), ?_⟩
    obtain ⟨dx, t1, t2, ys, h1, h2, h3, h4⟩ := hc
    refine ⟨.ref x, rfl, x, dx, _, rfl, h1, x, ds, rs, rfl, ⟨dx, t1, t2, ys, h1, h2, h3, h4⟩, ld, lr, zz, fun H1 t zs es s1 et pe perm srt => ⟨t, rfl, ⟨_, SqT.of et⟩, fun D nD => lc_tup (K := K) (a := t) (xs := zs) (fun i Hz => Same H1 Hz ∧ ∃ acc : List V, acc.length = nh lo hi (es.take i) ∧ Hz D = some (.lst acc)) ⟨same_new nD, [], rfl, upd_same⟩ (fun i Hz _ z => SqT.of (z.1 _ _ et)) ?_ ?_⟩⟩
    · have le : es.length ≤ 80000 := by
        rw [perm.length_eq]
        simp only [List.length_append, sw_len]
        omega
      rintro i y Hz hy ⟨sz, acc, el, eD⟩
      obtain ⟨p, r, rfl, er, hp⟩ := pairs_get pe hy
      have hi' := (List.getElem?_eq_some_iff.mp er).1
      have hacc : acc.length ≤ 80000 := by
        rw [el]
        exact Nat.le_trans (List.countP_le_length) (by rw [List.length_take]; omega)
      refine ⟨rfl, .ref p, rfl, .int lo, rfl, .int hi, rfl, by show 2 ≤ sizeLine; decide, fun q nq => ?_⟩
      have sq := same_new (o := .tup [.int lo, .int hi]) nq
      refine ⟨p, q, r.1, r.2, lo, hi, rfl, SqT.of (sq _ _ (sz _ _ hp)), SqT.of upd_same, _, rfl, ?_⟩
      have step := nh_take (lo := lo) (hi := hi) er
      have eh : hl lo hi r = (decide (r.1 ≤ lo) && decide (hi ≤ r.2)) := rfl
      rw [← eh]
      cases e : hl lo hi r with
      | true =>
        rw [e] at step
        refine iteT ⟨.ref p, rfl, _, sq _ _ eD, Nat.lt_of_le_of_lt hacc (by decide), same_again nD (sz.trans sq), acc ++ [.ref p], by rw [List.length_append, el, step]; rfl, upd_same⟩
      | false =>
        rw [e] at step
        exact iteF ⟨sz.trans sq, acc, by rw [el, step]; rfl, sq _ _ eD⟩
    · rintro Hz ⟨sz, acc, el, eD⟩
      refine ⟨D, acc, rfl, .inl (SqL.of eD), ?_⟩
      have e : acc.length = 2 * nh lo hi ds + nh lo hi (sw rs) := by
        rw [el, List.take_of_length_le (by rw [pe.length]; exact Nat.le_refl _), nh_perm perm, nh_app, nh_app]
        omega
      rw [e]
      exact hq _ (s1.trans sz)
end
end QK

/-! == and != of two instances by an own __eq__, both answers -/
namespace GN
open PySem PySem.Spec PyProof.Rows L2
section
variable {M : Model} {prog : Program} {w : World} {A : Around} {E : Value → Shared → Prop} {s : Shared} {K : PySem.W.Frag} {x C L f : Addr} {ox : Obj} {od : Option Obj}
theorem entry_ne {y : Value} (X : K.In s.heap) (I : PySem.W.InstAt s.heap x ox C od) (hs : PySem.W.findIn K (.ref C) "__eq__" = some (some (.ref f))) (hf : PySem.W.isFn K (.ref f) = true) (hu : A.units < cLine) {Q : Fin → Shared → Prop}
    (hcall : wpAny (model prog w) A (call (.ref f) [.ref x, y]) (fun v s' => ∃ b, v = .bool b ∧ Q (.done (.ret (.bool (!b)))) s') E s) :
    wpAny (model prog w) A (Builtin.«object.__ne__» ⟨[.ref x, y], []⟩) Q E s := by
  unfold Builtin.«object.__ne__»
  repeat (first
    | with_reducible refine wpAny_cRoomFor hu ?_
    | (refine wpAny_bind (m := callSpecialIfBound? (.ref x) (Str.ofString "__eq__") [y])
        (PySem.W.ifBound_K X I hs hf (wpAny_mono hcall (fun r s' hr => by
          obtain ⟨b, rfl, hq⟩ := hr
          repeat (first | exact hq | exact wpAny_pure hq | exact wpAny_truthy_bool hq | (refine wpAny_bind (m := truthy (.bool _)) (wpAny_truthy_bool ?_)) | wp_step)) fun _ _ e => e)))
    | wp_step)
theorem ifBound_ne {args : List Value} {Q : Option Value → Shared → Prop} (X : K.In s.heap) (I : PySem.W.InstAt s.heap x ox C od) (hs : PySem.W.findIn K (.ref C) "__ne__" = some (some (.builtin "object.__ne__")))
    (h : wpAny M A (call (.builtin "object.__ne__") (.ref x :: args)) (fun v => Q (some v)) E s) : wpAny M A (callSpecialIfBound? (.ref x) "__ne__" args) Q E s := by
  simp only [callSpecialIfBound?, bindSpecialIfBound?]
  refine wpAny_holding (wpAny_bind (wpAny_bind (wpAny_bind (I.type.here ((PySem.W.looks_findIn X hs).here ?_)))))
  refine wpAny_bind (wpAny_askSetting (wpAny_ite ?_))
  have fin : wpAny M A (call (.builtin "object.__ne__") ([.ref x] ++ args) >>= fun v => pure (some v)) Q E s := wpAny_bind (wpAny_mono h (fun v s' h' => wpAny_pure h') fun _ _ h' => h')
  split
  · exact wpAny_bind (wpAny_of_eq (F.cmp_object.ne.bind _) (wpAny_pure (by exact fin)))
  · exact wpAny_tryCatch (wpAny_bind (wpAny_of_eq (F.cmp_object.ne.bind _) (wpAny_pure (by exact fin))))
theorem rc_ne {b tb : Value} {Q : Value → Shared → Prop} (hu : A.units + 1 < cLine) (X : K.In s.heap) (I : PySem.W.InstAt s.heap x ox C od) (hb : PySem.W.Looks (model prog w) s.heap (typeOf b) tb) (hn : PySem.W.notFirst K C tb = true)
    (hm : PySem.W.mroIn K C (.type "object") = some true) (hs : PySem.W.findIn K (.ref C) "__eq__" = some (some (.ref f))) (hf : PySem.W.isFn K (.ref f) = true) (hne : PySem.W.findIn K (.ref C) "__ne__" = some (some (.builtin "object.__ne__")))
    (h : wpAny (model prog w) A.in1 (call (.ref f) [.ref x, b]) (fun v s' => ∃ r, v = .bool r ∧ Q (.bool (!r)) s') E s) : wpAny (model prog w) A (richCompare .NotEq (.ref x) b) Q E s := by
  have one : wpAny (model prog w) A (tryCompare (.ref x) "__ne__" b) (fun r s' => ∃ v, r = some v ∧ Q v s') E s := by
    unfold tryCompare
    refine wpAny_bind (ifBound_ne X I hne (wpAny_call (codeAny_call_builtin F.cmp_object.ne.plain F.cmpEntry_ne (PySem.W.check_slot F.cmpKind_ne F.cmpSplit_ne (I.type.andThen (PySem.W.looks_mroIn X hm)) (F.cmpArgs_ne _ _)
      (entry_ne (A := A.in1) X I hs hf hu (wpAny_mono h (fun v s' hv => ?_) fun _ _ e => e))))))
    obtain ⟨r, rfl, hq⟩ := hv
    first
      | exact ⟨r, rfl, wpAny_pure ⟨_, rfl, hq⟩⟩
      | exact ⟨r, rfl, wpAny_pure (wpAny_pure ⟨_, rfl, hq⟩)⟩
      | exact ⟨r, rfl, _, rfl, hq⟩
  unfold richCompare
  simp only [oneThing_ref]
  refine wpAny_holding (wpAny_bind (wpAny_cRoomFor (Nat.lt_of_succ_lt hu) ?_))
  refine wpAny_bind (I.type.here (wpAny_bind (hb.here ?_)))
  split
  · rename_i q
    have e : PySem.W.subIn K tb (.ref C) = some false := by
      rcases Bool.or_eq_true_iff.mp hn with e | e
      · rw [beq_iff_eq.mp e] at q; simp at q
      · exact beq_iff_eq.mp e
    refine wpAny_bind ((PySem.W.looks_subIn X e).here ?_)
    simp only [Bool.false_eq_true, if_false]
    refine wpAny_bind (wpAny_mono one (fun r s' z => ?_) fun _ _ e => e)
    obtain ⟨v, rfl, hq⟩ := z
    exact wpAny_pure hq
  · refine wpAny_bind (wpAny_pure ?_)
    simp only [Bool.false_eq_true, if_false]
    refine wpAny_bind (wpAny_mono one (fun r s' z => ?_) fun _ _ e => e)
    obtain ⟨v, rfl, hq⟩ := z
    exact wpAny_pure hq
end
section
variable {X : Cx} {n : Nat} {CX : CXT} {C f : Addr} {fd : FuncData} {ps : List Str} {sp : Sp} {E : XK}
/-- a def of the text, called from below -/
theorem call_own (F : FnOk X.prog X.w X.K X.mg X.base CX n f fd ps sp) (hb : Binds X.K fd ps []) (hx : Passes CX X E) {A : Around} (sb : Sub X n A) {pins : List (Addr × Obj)} {σ : L2.St} {H : Hp} {s : Shared} (I : Inv X pins σ H s) {vs : List V} {us : List Value} (r2 : Vals vs us) {Q : VK} (hsp : sp vs H Q E) :
    wpAny (model X.prog X.w) A (call (.ref f) us) (fun v s' => ∃ z H', Inv X pins σ H' s' ∧ RelV z v ∧ Q z H') X.xe s := by
  have e0 : Env0 X.prog X.w X.K X.mg X.base A X.stack s H := by
    have e := I.env0
    exact ⟨by rw [sb.fr]; exact e.frames, e.mod, e.bs, e.bsz, e.funs, e.frf, e.hok, e.bare⟩
  have hl := F.len _ _ _ _ hsp
  refine wpAny_call (codeAny_mono (F.run A X.stack s H ⟨us, []⟩ us vs _ E sb.room e0 (by
    have := hb s us I.kIn (by rw [List.append_nil, ← r2.length]; exact hl)
    simpa using this) r2 hsp) fun r s' hq => ?_)
  cases r with
  | error e => exact hx pins σ H s e s' I hq
  | ok fl =>
    cases fl with
    | ret w =>
      obtain ⟨z, H', I', rz, ez⟩ := I.after hq
      exact ⟨z, H', I', rz, ez⟩
    | next => exact False.elim hq
    | brk => exact False.elim hq
    | cont => exact False.elim hq
/-- what == (neg: !=) of two instances of the class asks -/
def rOwn (C : Addr) (sp : Sp) (E : XK) (neg : Bool) : R2 := fun x y H Q => ∃ a b dx dy fs gs, x = .ref a ∧ y = .ref b ∧ H a = some (.ins C dx fs) ∧ H b = some (.ins C dy gs) ∧ sp [.ref a, .ref b] H (fun v H' => ∃ r, v = .bl r ∧ Q (.bl (neg != r)) H') E
theorem op_eqOwn (F : FnOk X.prog X.w X.K X.mg X.base CX n f fd ps sp) (hr : Room n X.A) (hs : PySem.W.findIn X.K (.ref C) "__eq__" = some (some (.ref f))) (hf : PySem.W.isFn X.K (.ref f) = true) (hb : Binds X.K fd ps []) (hx : Passes CX X E) : OpR X (compareOp .Eq) (rOwn C sp E false) := by
  intro pins s σ H x y v u Q I rx ry hq
  obtain ⟨a, b, dx, dy, fs, gs, rfl, rfl, ha, hb', hsp⟩ := hq
  cases rx
  cases ry
  obtain ⟨mA, J, _⟩ := ins_get I.hok ha
  obtain ⟨mB, J', _⟩ := ins_get I.hok hb'
  obtain ⟨od, J, _⟩ := J.look
  obtain ⟨od', J', _⟩ := J'.look
  have sb : Sub X n X.A := ⟨hr, rfl⟩
  have r2 : Vals [V.ref a, V.ref b] [Value.ref a, Value.ref b] := .cons rfl (.cons rfl .nil)
  obtain ⟨m, hF⟩ := I.fr
  show wpAny (model X.prog X.w) X.A (richCompare .Eq _ _) (EP X pins σ Q) X.xe s
  refine PySem.W.cmp_K (op := .Eq) (tb := .ref C) sb.room.units0 hF I.ok.mod.kin J J'.type (by simp [PySem.W.notFirst]) hs hf ?_
  refine wpAny_mono (call_own F hb hx sb I r2 hsp) (fun v s' hv => ?_) fun _ _ e => e
  obtain ⟨z, H', I', rz, r, rfl, q⟩ := hv
  cases rz
  exact ⟨.bl r, H', I', rfl, by cases r <;> exact q⟩
theorem op_neOwn (F : FnOk X.prog X.w X.K X.mg X.base CX n f fd ps sp) (hr : Room (n + 1) X.A) (hs : PySem.W.findIn X.K (.ref C) "__eq__" = some (some (.ref f))) (hf : PySem.W.isFn X.K (.ref f) = true) (hm : PySem.W.mroIn X.K C (.type "object") = some true)
    (hne : PySem.W.findIn X.K (.ref C) "__ne__" = some (some (.builtin "object.__ne__"))) (hb : Binds X.K fd ps []) (hx : Passes CX X E) : OpR X (compareOp .NotEq) (rOwn C sp E true) := by
  intro pins s σ H x y v u Q I rx ry hq
  obtain ⟨a, b, dx, dy, fs, gs, rfl, rfl, ha, hb', hsp⟩ := hq
  cases rx
  cases ry
  obtain ⟨mA, J, _⟩ := ins_get I.hok ha
  obtain ⟨mB, J', _⟩ := ins_get I.hok hb'
  obtain ⟨od, J, _⟩ := J.look
  obtain ⟨od', J', _⟩ := J'.look
  have sb : Sub X (n + 1) X.A := ⟨hr, rfl⟩
  have r2 : Vals [V.ref a, V.ref b] [Value.ref a, Value.ref b] := .cons rfl (.cons rfl .nil)
  show wpAny (model X.prog X.w) X.A (richCompare .NotEq _ _) (EP X pins σ Q) X.xe s
  refine rc_ne (tb := .ref C) sb.in1.room.units0 I.kIn J J'.type (by simp [PySem.W.notFirst]) hm hs hf hne ?_
  refine wpAny_mono (call_own F hb hx sb.in1 I r2 hsp) (fun v s' hv => ?_) fun _ _ e => e
  obtain ⟨z, H', I', rz, r, rfl, q⟩ := hv
  cases rz
  exact ⟨r, rfl, .bl (!r), H', I', rfl, by cases r <;> exact q⟩
end
end GN

/-! == of counts -/
namespace QL
open PySem PySem.Spec PyProof.Rows L2 KA PH PM PA PB PC RM RN RC QE QF QG QH
abbrev sEQ : Stmt := inClass sClass 8
theorem scEQ : FnScope ["self", "other"] ["self", "other"] (defScope sEQ) := ⟨rfl, rfl, rfl, by decide +kernel, rfl, by decide +kernel, by decide +kernel⟩
theorem ev_ints : ∀ as bs : List Int, PyData.eqvAll (dInts as) (dInts bs) = decide (as = bs)
  | [], [] => by simp [dInts, PyData.eqvAll]
  | [], _ :: _ => by simp [dInts, PyData.eqvAll]
  | _ :: _, [] => by simp [dInts, PyData.eqvAll]
  | a :: as, b :: bs => by
    have ih := ev_ints as bs
    show (PyData.eqv (.int a) (.int b) && PyData.eqvAll (dInts as) (dInts bs)) = _
    rw [ih]
    simp [PyData.eqv, Bool.beq_eq_decide_eq]
theorem ev_pairs : ∀ rs ss : List (Int × Int), PyData.eqvAll (dPairs rs) (dPairs ss) = decide (rs = ss)
  | [], [] => by simp [dPairs, PyData.eqvAll]
  | [], _ :: _ => by simp [dPairs, PyData.eqvAll]
  | _ :: _, [] => by simp [dPairs, PyData.eqvAll]
  | (a, b) :: rs, (c, d) :: ss => by
    have ih := ev_pairs rs ss
    show (PyData.eqv (.tuple [.int a, .int b]) (.tuple [.int c, .int d]) && PyData.eqvAll (dPairs rs) (dPairs ss)) = _
    rw [ih]
    simp [PyData.eqv, PyData.eqvAll, Bool.beq_eq_decide_eq]
theorem shaped_prt (rs : List (Int × Int)) : SeqAt.shaped (.tuple (dPairs rs)) = true :=
  shaped_of (by simp only [PyData.canLay0, lay_pairs]) (by have := depth_pairs rs; simp only [PyData.depth]; omega)
section
variable {P : Program} {w : World} {K : PySem.W.Frag} {mg : Str → Option Value} {base : Heap}
def spEQ (C : Addr) : Sp := fun vs H Q _ => ∃ (x y : Addr) (ds es : List (Int × Int)) (rs ts : List Int), vs = [.ref x, .ref y] ∧ CountAt H C x ds rs ∧ CountAt H C y es ts ∧ Q (.bl (decide (ds = es) && decide (rs = ts))) H
theorem ok_EQ {C f : Addr} {fd : FuncData} {k : Nat} (F : Fun K "__eq__" "Count.__eq__" sEQ f fd) (T : Cnt K C) (S : C8.InsC K C) (gC : mg "Count" = some (.ref C)) (mi : mg "isinstance" = none) : FnOk P w K mg base CX0 (k + 1) f fd ["self", "other"] (spEQ C) := by
  refine F.ok scEQ (fun vs H Q E h => ?_) (fun cdv A outer s H vs Q E hr h => ?_)
  · obtain ⟨x, y, ds, es, rs, ts, rfl, _⟩ := h
    rfl
  · obtain ⟨x, y, ds, es, rs, ts, rfl, ⟨dx, t1, t2, ys, h1, h2, h3, h4⟩, ⟨dy, u1, u2, zs, g1, g2, g3, g4⟩, hq⟩ := h
    refine ⟨_, pss_one (ps_ret (pe_and (pe_callB (C8.call_isC S) (by rfl) mi (by decide +kernel) (pa_cons (pv 1) (pa_cons (pe_glob (v := .ref C) (by rfl) gC rfl) pa_nil)))
      (pe_and (pe_cmpR (op_eqD hr.units) (pe_fld (pv 0) rfl) (pe_fld (pv 1) rfl) (nomark _)) (pe_one (pe_cmpR (op_eqD hr.units) (pe_fld (pv 0) rfl) (pe_fld (pv 1) rfl) (nomark _)))))), ?_⟩
    have e1 := ev_pairs ds es
    have e2 := ev_ints rs ts
    refine ⟨.ref y, rfl, y, dy, _, rfl, g1, true, rfl, iteT ?_⟩
    refine ⟨.ref x, rfl, x, C, dx, _, .ref t1, rfl, h1, T.cl, T.nC, rfl, .ref y, rfl, y, C, dy, _, .ref u1, rfl, g1, T.cl, T.nC, rfl, .tuple (dPairs ds), .tuple (dPairs es), .tup (SqT.of h2) (dp_pairs h3), .tup (SqT.of g2) (dp_pairs g3), shaped_prt _, shaped_prt _, _, rfl, ?_⟩
    rw [show PyData.eqv (.tuple (dPairs ds)) (.tuple (dPairs es)) = decide (ds = es) from by rw [← e1]; rfl]
    cases e : decide (ds = es) with
    | false =>
      rw [e] at hq
      exact iteF hq
    | true =>
      rw [e] at hq
      refine iteT ⟨.ref x, rfl, x, C, dx, _, .ref t2, rfl, h1, T.cl, T.nR, rfl, .ref y, rfl, y, C, dy, _, .ref u2, rfl, g1, T.cl, T.nR, rfl, .tuple (dInts rs), .tuple (dInts ts), .tup (SqT.of h4) (dp_ints _), .tup (SqT.of g4) (dp_ints _), shaped_tup _, shaped_tup _, ?_⟩
      rw [show PyData.eqv (.tuple (dInts rs)) (.tuple (dInts ts)) = decide (rs = ts) from by rw [← e2]; rfl]
      exact hq
end
end QL

/-! str(x) by an own __str__; == and != of an instance and a value of another type -/
namespace GS
open PySem PySem.Spec PyProof.Rows L2 GN
section
variable {X : Cx} {n : Nat} {CX : CXT} {C f : Addr} {fd : FuncData} {ps : List Str} {sp : Sp} {E : XK}
def rOth (K : PySem.W.Frag) (C : Addr) (sp : Sp) (E : XK) (neg : Bool) : R2 := fun x y H Q => ∃ a dx fs t, x = .ref a ∧ H a = some (.ins C dx fs) ∧ TyX K H y t ∧ PySem.W.notFirst K C t = true ∧ sp [.ref a, y] H (fun v H' => ∃ r, v = .bl r ∧ Q (.bl (neg != r)) H') E
theorem op_eqOth (F : FnOk X.prog X.w X.K X.mg X.base CX n f fd ps sp) (hr : Room n X.A) (hs : PySem.W.findIn X.K (.ref C) "__eq__" = some (some (.ref f))) (hf : PySem.W.isFn X.K (.ref f) = true) (hb : Binds X.K fd ps []) (hx : Passes CX X E) : OpR X (compareOp .Eq) (rOth X.K C sp E false) := by
  intro pins s σ H x y v u Q I rx ry hq
  obtain ⟨a, dx, fs, t, rfl, ha, ty, nf, hsp⟩ := hq
  cases rx
  obtain ⟨mA, J, _⟩ := ins_get I.hok ha
  obtain ⟨od, J, _⟩ := J.look
  obtain ⟨Pt, Z, p, _⟩ := kit_of I ry ty
  have sb : Sub X n X.A := ⟨hr, rfl⟩
  have r2 : Vals [V.ref a, y] [Value.ref a, u] := .cons rfl (.cons ry .nil)
  obtain ⟨m, hF⟩ := I.fr
  show wpAny (model X.prog X.w) X.A (richCompare .Eq _ _) (EP X pins σ Q) X.xe s
  refine PySem.W.cmp_K (op := .Eq) (tb := t) sb.room.units0 hF I.ok.mod.kin J (Z.ty _ _ I.kIn p) nf hs hf ?_
  refine wpAny_mono (call_own F hb hx sb I r2 hsp) (fun v s' hv => ?_) fun _ _ e => e
  obtain ⟨z, H', I', rz, r, rfl, q⟩ := hv
  cases rz
  exact ⟨.bl r, H', I', rfl, by cases r <;> exact q⟩
theorem op_neOth (F : FnOk X.prog X.w X.K X.mg X.base CX n f fd ps sp) (hr : Room (n + 1) X.A) (hs : PySem.W.findIn X.K (.ref C) "__eq__" = some (some (.ref f))) (hf : PySem.W.isFn X.K (.ref f) = true) (hm : PySem.W.mroIn X.K C (.type "object") = some true)
    (hne : PySem.W.findIn X.K (.ref C) "__ne__" = some (some (.builtin "object.__ne__"))) (hb : Binds X.K fd ps []) (hx : Passes CX X E) : OpR X (compareOp .NotEq) (rOth X.K C sp E true) := by
  intro pins s σ H x y v u Q I rx ry hq
  obtain ⟨a, dx, fs, t, rfl, ha, ty, nf, hsp⟩ := hq
  cases rx
  obtain ⟨mA, J, _⟩ := ins_get I.hok ha
  obtain ⟨od, J, _⟩ := J.look
  obtain ⟨Pt, Z, p, _⟩ := kit_of I ry ty
  have sb : Sub X (n + 1) X.A := ⟨hr, rfl⟩
  have r2 : Vals [V.ref a, y] [Value.ref a, u] := .cons rfl (.cons ry .nil)
  show wpAny (model X.prog X.w) X.A (richCompare .NotEq _ _) (EP X pins σ Q) X.xe s
  refine rc_ne (tb := t) sb.in1.room.units0 I.kIn J (Z.ty _ _ I.kIn p) nf hm hs hf hne ?_
  refine wpAny_mono (call_own F hb hx sb.in1 I r2 hsp) (fun v s' hv => ?_) fun _ _ e => e
  obtain ⟨z, H', I', rz, r, rfl, q⟩ := hv
  cases rz
  exact ⟨r, rfl, .bl (!r), H', I', rfl, by cases r <;> exact q⟩
/-- str(x) of an instance whose class has a __str__ of its own -/
def rStrOwn (C : Addr) (sp : Sp) (E : XK) : List V → Hp → VK → Prop := fun vs H Q => ∃ a dx fs, vs = [.ref a] ∧ H a = some (.ins C dx fs) ∧ sp [.ref a] H (fun v H' => ∃ z : Str, v = .str z ∧ Q (.str z) H') E
theorem cr_strOwn (F : FnOk X.prog X.w X.K X.mg X.base CX n f fd ps sp) (hr : Room (n + 2) X.A) (hs : PySem.W.findIn X.K (.ref C) "__str__" = some (some (.ref f))) (hf : PySem.W.isFn X.K (.ref f) = true) (hb : Binds X.K fd ps []) (hx : Passes CX X E) : CallR X (.type "str") (rStrOwn C sp E) := by
  intro pins s σ H vs us Q I r h
  obtain ⟨a, dx, fs, rfl, ha, hsp⟩ := h
  have er : us = [Value.ref a] := Vals.ref1 r
  subst er
  obtain ⟨mA, J, _⟩ := ins_get I.hok ha
  obtain ⟨od, J, _⟩ := J.look
  have sb : Sub X (n + 2) X.A := ⟨hr, rfl⟩
  have r2 : Vals [V.ref a] [Value.ref a] := .cons rfl .nil
  refine PySem.W.kso_call sb.in1.in1.room.units0 I.kIn J hs hf ?_
  refine wpAny_mono (call_own F hb hx sb.in1.in1 I r2 hsp) (fun v s' hv => ?_) fun _ _ e => e
  obtain ⟨z, H', I', rz, y, rfl, q⟩ := hv
  obtain ⟨t, rfl⟩ := rz
  exact ⟨.str y, H', I', ⟨t, rfl⟩, q⟩
end
end GS

/-! the text of a count; == of a count and another thing -/
namespace WN
open PySem PySem.Spec PyProof.Rows L2 KA PH PM PA PB PC RM RN QE QF QG QH QK QL
abbrev sCR : Stmt := topS 26
abbrev sPRw : Stmt := topS 27
abbrev sST : Stmt := inClass sClass 9
theorem scCR : FnScope ["cycles", "low", "high"] ["cycles"] (defScope sCR) := ⟨rfl, rfl, rfl, by decide +kernel, rfl, by decide +kernel, by decide +kernel⟩
theorem scPRw : FnScope ["points", "point"] ["points"] (defScope sPRw) := ⟨rfl, rfl, rfl, by decide +kernel, rfl, by decide +kernel, by decide +kernel⟩
theorem scST : FnScope ["self"] ["self"] (defScope sST) := ⟨rfl, rfl, rfl, by decide +kernel, rfl, by decide +kernel, by decide +kernel⟩
theorem len_app (x y : Str) : (x ++ y).length = x.length + y.length := by
  show (x.cps ++ y.cps).size = _
  rw [Array.size_append]
  rfl
/-- the text of an int -/
def ti (i : Int) : Str := toString i
theorem ti_len {i : Int} (h : i.natAbs < 2 ^ 39) : (ti i).length ≤ 13 := by
  have := PySem.int_text_length_le10 (a := i) (k := 12) (by decide) (Nat.lt_trans h (by decide))
  have e : (ti i).length = (toString i).length := PySem.ofString_length _
  omega
theorem ti_log {i : Int} (h : i.natAbs < 2 ^ 39) : i.natAbs.log2 < 1920 := Nat.lt_of_lt_of_le (KG.small_log (by decide) h) (by decide)
def txC (r : Int × Int) : Str := ((Str.empty ++ ti r.1) ++ ":") ++ ti r.2
theorem col_len : ((":" : Str)).length = 1 := by decide +kernel
theorem txC_len {r : Int × Int} (h : r.1.natAbs < 2 ^ 39 ∧ r.2.natAbs < 2 ^ 39) : (txC r).length ≤ 27 := by
  unfold txC
  have h1 := ti_len h.1
  have h2 := ti_len h.2
  have h0 : (Str.empty).length = 0 := rfl
  have hc := col_len
  rw [len_app, len_app, len_app]
  omega
def rowC (ds : List (Int × Int)) : Str := if ds = [] then "none" else Txt.join " " (ds.map txC)
def rowP (rs : List Int) : Str := if rs = [] then "none" else Txt.join " " (rs.map ti)
def txt (ds : List (Int × Int)) (rs : List Int) : Str := Txt.join "\n" [rowC ds, rowP rs]
theorem sum_le {B : Nat} : ∀ {xs : List Str}, (∀ x ∈ xs, x.length ≤ B) → (xs.map (·.length)).sum ≤ B * xs.length
  | [], _ => Nat.zero_le _
  | x :: xs, h => by
    have h1 := h x List.mem_cons_self
    have h2 := sum_le (xs := xs) fun y hy => h y (List.mem_cons_of_mem _ hy)
    rw [List.map_cons, List.sum_cons, List.length_cons, Nat.mul_succ]
    omega
theorem sjoin_len {sep : Str} {B : Nat} : ∀ {xs : List Str}, (∀ x ∈ xs, x.length ≤ B) → (Str.join sep xs).length ≤ (B + sep.length) * xs.length
  | [], _ => Nat.zero_le _
  | [x], h => by
    have h1 := h x List.mem_cons_self
    show x.length ≤ _
    rw [List.length_singleton, Nat.mul_one]
    omega
  | x :: y :: xs, h => by
    have h1 := h x List.mem_cons_self
    have h2 := sjoin_len (sep := sep) (xs := y :: xs) fun z hz => h z (List.mem_cons_of_mem _ hz)
    show (x ++ sep ++ Str.join sep (y :: xs)).length ≤ _
    rw [len_app, len_app, List.length_cons, Nat.mul_succ]
    omega
theorem join_len {sep : Str} {B : Nat} {xs : List Str} (h : ∀ x ∈ xs, x.length ≤ B) : (Txt.join sep xs).length ≤ (B + sep.length) * xs.length := by
  show (Builtin.Str.glued sep xs).length ≤ _
  rw [StrLaws.glued_eq_join]
  exact sjoin_len h
section
variable {P : Program} {w : World} {K : PySem.W.Frag} {mg : Str → Option Value} {base : Heap}
/-- the text of a cycle, as a reading -/
def teJ : TE := fun σ H Q => tJs [tFmt (tVar 1), tC (V.str ":"), tFmt (tVar 2)] Str.empty σ H fun out H1 => Q (.str out) H1
def spCR (K : PySem.W.Frag) : Sp := fun vs H Q _ => ∃ (t : Addr) (ys : List V) (ds : List (Int × Int)), vs = [.ref t] ∧ H t = some (.tup ys) ∧ PairsAt H ys ds ∧ ds.length ≤ 21000 ∧ (∀ r ∈ ds, r.1.natAbs < 2 ^ 39 ∧ r.2.natAbs < 2 ^ 39) ∧ ∀ H', Same H H' → Q (.str (rowC ds)) H'
theorem ok_CR {f : Addr} {fd : FuncData} {k : Nat} (F : Fun K "cycles_row" "cycles_row" sCR f fd) (gN : ∃ u, mg "NOTHING" = some u ∧ RelV (.str "none") u) : FnOk P w K mg base CX0 (k + 1) f fd ["cycles"] (spCR K) := by
  refine F.ok scCR (fun vs H Q E h => ?_) (fun cdv A outer s H vs Q E hr h => ?_)
  · obtain ⟨t, ys, ds, rfl, _⟩ := h
    rfl
  · obtain ⟨t, ys, ds, rfl, ht, pa, ld, hb, q⟩ := h
    refine ⟨_, pss_one (ps_ret (pe_ifExp (pt_truth (pv 0) (by intro _; rfl)) (pe_join pe_str (pe_lc (own := [("low", 1), ("high", 2)]) (g := gTup K 2 (gCons (gName 1) (gCons (gName 2) gNil))) (tt := tYes) (te := teJ) rfl scCR.nd (pi_tup (pv 0)) (blkOk_by (own := [("low", 1), ("high", 2)]) (N := ["cycles", "low", "high"]) (sc := defScope sCR) (by decide +kernel))
        (fun _ _ _ _ _ => pg_tup rfl (pgs_cons (pg_name (i := 1) scCR.nd rfl (Or.inl rfl) (Or.inr rfl)) (pgs_cons (pg_name (i := 2) scCR.nd rfl (Or.inl rfl) (Or.inr rfl)) pgs_nil))) (fun _ _ _ _ _ => pts_nil)
        (fun _ _ _ _ _ => pe_joined (.cons (pe_fmt (pv 1)) (.cons pe_str (.cons (pe_fmt (pv 2)) .nil)))))) (C8.pe_gc (v := .str "none") (by rfl) gN))), ?_⟩
    refine ⟨.ref t, rfl, !ys.isEmpty, .inr (.inl ⟨_, SqT.of ht, rfl⟩), ?_⟩
    have hl := pa.length
    by_cases hd : ds = []
    · subst hd
      have : ys = [] := List.length_eq_zero_iff.mp hl
      subst this
      exact iteF (q H (Same.refl H))
    have he : (!ys.isEmpty) = true := by
      cases ys with
      | nil =>
        have : ds = [] := List.length_eq_zero_iff.mp hl.symm
        exact absurd this hd
      | cons _ _ => rfl
    rw [he]
    refine iteT ⟨⟨_, rfl⟩, .ref t, rfl, t, rfl, ⟨_, SqT.of ht⟩, fun D nD => ?_⟩
    refine lc_tup (K := K) (a := t) (xs := ys) (fun i Hz => Hz = upd H D (.lst (((ds.take i).map txC).map V.str))) rfl (fun i Hz _ e => by rw [e]; exact SqT.of ((same_new nD) _ _ ht)) ?_ ?_
    · rintro i y Hz hy rfl
      obtain ⟨p, r, rfl, er, hp⟩ := pairs_get pa hy
      have hp2 := (same_new (o := .lst (((ds.take i).map txC).map V.str)) nD) _ _ hp
      have hr := hb r (List.mem_of_getElem? er)
      refine ⟨p, _, rfl, SqT.of hp2, rfl, .int r.1, [.int r.2], rfl, .int r.2, [], rfl, rfl, rfl, iteT (B := True) ?_⟩
      have h0 : (Str.empty).length = 0 := rfl
      have l1 := ti_len hr.1
      have l2 := ti_len hr.2
      have hc := col_len
      have sl : ∀ {n : Nat}, n ≤ 100 → n ≤ sizeLine := fun h => Nat.le_trans h (by decide)
      refine ⟨.int r.1, rfl, .inr ⟨r.1, rfl, ti_log hr.1, ti r.1, rfl, sl (by rw [len_app]; omega), ":", rfl, sl (by rw [len_app, len_app]; omega), .int r.2, rfl, .inr ⟨r.2, rfl, ti_log hr.2, ti r.2, rfl, sl (by rw [len_app, len_app, len_app]; omega), _, upd_same, ?_, ?_⟩⟩⟩
      · rw [List.length_map, List.length_map, List.length_take]
        exact Nat.lt_of_le_of_lt (show _ ≤ 21000 by omega) (by decide)
      · rw [upd_upd, List.take_add_one, er, List.map_append, List.map_append]
        rfl
    rintro Hz rfl
    rw [hl, List.take_length]
    refine ⟨_, D, ds.map txC, rfl, rfl, .inl (SqL.of upd_same), ?_, ?_⟩
    · have h1 := sum_le (B := 27) (xs := ds.map txC) fun x hx => by
        obtain ⟨r, hr, e⟩ := List.mem_map.mp hx
        rw [← e]
        exact txC_len (hb r hr)
      have h2 : ((" " : Str)).length = 1 := by decide +kernel
      rw [h2, List.length_map] at *
      omega
    · have := q _ (same_new (o := .lst ((ds.map txC).map V.str)) nD)
      unfold rowC at this
      rw [if_neg hd] at this
      exact this
def spPRw (K : PySem.W.Frag) : Sp := fun vs H Q _ => ∃ (t : Addr) (rs : List Int), vs = [.ref t] ∧ H t = some (.tup (rs.map V.int)) ∧ rs.length ≤ 21000 ∧ (∀ r ∈ rs, r.natAbs < 2 ^ 39) ∧ ∀ H', Same H H' → Q (.str (rowP rs)) H'
theorem ok_PRw {f : Addr} {fd : FuncData} {k : Nat} (F : Fun K "points_row" "points_row" sPRw f fd) (gN : ∃ u, mg "NOTHING" = some u ∧ RelV (.str "none") u) (ms : mg "str" = none) : FnOk P w K mg base CX0 (k + 1) f fd ["points"] (spPRw K) := by
  refine F.ok scPRw (fun vs H Q E h => ?_) (fun cdv A outer s H vs Q E hr h => ?_)
  · obtain ⟨t, rs, rfl, _⟩ := h
    rfl
  · obtain ⟨t, rs, rfl, ht, ld, hb, q⟩ := h
    refine ⟨_, pss_one (ps_ret (pe_ifExp (pt_truth (pv 0) (by intro _; rfl)) (pe_join pe_str (pe_lc (own := [("point", 1)]) (g := gName 1) rfl scPRw.nd (pi_tup (pv 0)) (blkOk_by (own := [("point", 1)]) (N := ["points", "point"]) (sc := defScope sPRw) (by decide +kernel))
        (fun _ _ _ _ _ => pg_name (i := 1) scPRw.nd rfl (Or.inl rfl) (Or.inr rfl)) (fun _ _ _ _ _ => pts_nil)
        (fun _ _ _ _ _ => pe_callTy call_str_int (by rfl) ms (by decide +kernel) (pa_cons (pv 1) pa_nil)))) (C8.pe_gc (v := .str "none") (by rfl) gN))), ?_⟩
    refine ⟨.ref t, rfl, !(rs.map V.int).isEmpty, .inr (.inl ⟨_, SqT.of ht, rfl⟩), ?_⟩
    by_cases hd : rs = []
    · subst hd
      exact iteF (q H (Same.refl H))
    have he : (!(rs.map V.int).isEmpty) = true := by
      cases rs with
      | nil => exact absurd rfl hd
      | cons _ _ => rfl
    rw [he]
    refine iteT ⟨⟨_, rfl⟩, .ref t, rfl, t, rfl, ⟨_, SqT.of ht⟩, fun D nD => ?_⟩
    refine lc_tup (K := K) (a := t) (xs := rs.map V.int) (fun i Hz => Hz = upd H D (.lst (((rs.take i).map ti).map V.str))) rfl (fun i Hz _ e => by rw [e]; exact SqT.of ((same_new nD) _ _ ht)) ?_ ?_
    · rintro i y Hz hy rfl
      obtain ⟨r, er, rfl⟩ := int_at hy
      have hr := hb r (List.mem_of_getElem? er)
      refine ⟨rfl, iteT (B := True) ⟨.int r, rfl, r, rfl, ti_log hr, _, upd_same, ?_, ?_⟩⟩
      · rw [List.length_map, List.length_map, List.length_take]
        exact Nat.lt_of_le_of_lt (show _ ≤ 21000 by omega) (by decide)
      · rw [upd_upd, List.take_add_one, er, List.map_append, List.map_append]
        rfl
    rintro Hz rfl
    rw [List.length_map, List.take_length]
    refine ⟨_, D, rs.map ti, rfl, rfl, .inl (SqL.of upd_same), ?_, ?_⟩
    · have h1 := sum_le (B := 13) (xs := rs.map ti) fun x hx => by
        obtain ⟨r, hr, e⟩ := List.mem_map.mp hx
        rw [← e]
        exact ti_len (hb r hr)
      have h2 : ((" " : Str)).length = 1 := by decide +kernel
      rw [h2, List.length_map] at *
      omega
    · have := q _ (same_new (o := .lst ((rs.map ti).map V.str)) nD)
      unfold rowP at this
      rw [if_neg hd] at this
      exact this
theorem none_len : (("none" : Str)).length = 4 := by decide +kernel
theorem rowC_len {ds : List (Int × Int)} (ld : ds.length ≤ 21000) (hb : ∀ r ∈ ds, r.1.natAbs < 2 ^ 39 ∧ r.2.natAbs < 2 ^ 39) : (rowC ds).length ≤ 900000 := by
  unfold rowC
  split
  · rw [none_len]; omega
  · have h := join_len (sep := " ") (B := 27) (xs := ds.map txC) fun x hx => by
      obtain ⟨r, hr, e⟩ := List.mem_map.mp hx
      rw [← e]
      exact txC_len (hb r hr)
    have h2 : ((" " : Str)).length = 1 := by decide +kernel
    rw [h2, List.length_map] at h
    omega
theorem rowP_len {rs : List Int} (ld : rs.length ≤ 21000) (hb : ∀ r ∈ rs, r.natAbs < 2 ^ 39) : (rowP rs).length ≤ 900000 := by
  unfold rowP
  split
  · rw [none_len]; omega
  · have h := join_len (sep := " ") (B := 13) (xs := rs.map ti) fun x hx => by
      obtain ⟨r, hr, e⟩ := List.mem_map.mp hx
      rw [← e]
      exact ti_len (hb r hr)
    have h2 : ((" " : Str)).length = 1 := by decide +kernel
    rw [h2, List.length_map] at h
    omega
/-- a count whose text can be written -/
def Small (ds : List (Int × Int)) (rs : List Int) : Prop := ds.length ≤ 21000 ∧ rs.length ≤ 21000 ∧ (∀ r ∈ ds, r.1.natAbs < 2 ^ 39 ∧ r.2.natAbs < 2 ^ 39) ∧ ∀ r ∈ rs, r.natAbs < 2 ^ 39
def spST (C : Addr) : Sp := fun vs H Q _ => ∃ (x : Addr) (ds : List (Int × Int)) (rs : List Int), vs = [.ref x] ∧ CountAt H C x ds rs ∧ Small ds rs ∧ ∀ H', Same H H' → Q (.str (txt ds rs)) H'
theorem ok_ST {C f fC fP : Addr} {fd dC dP : FuncData} {k : Nat} (F : Fun K "__str__" "Count.__str__" sST f fd) (T : Cnt K C) (GC : FnOk P w K mg base CX0 (k + 1) fC dC ["cycles"] (spCR K)) (gC : mg "cycles_row" = some (.ref fC)) (kC : PySem.W.keepIn K (.ref fC) = true) (bC : Binds K dC ["cycles"] [])
    (GP : FnOk P w K mg base CX0 (k + 1) fP dP ["points"] (spPRw K)) (gP : mg "points_row" = some (.ref fP)) (kP : PySem.W.keepIn K (.ref fP) = true) (bP : Binds K dP ["points"] []) : FnOk P w K mg base CX0 (k + 2) f fd ["self"] (spST C) := by
  refine F.ok scST (fun vs H Q E h => ?_) (fun cdv A outer s H vs Q E hr h => ?_)
  · obtain ⟨x, ds, rs, rfl, _⟩ := h
    rfl
  · obtain ⟨x, ds, rs, rfl, ⟨dx, t1, t2, ys, h1, h2, h3, h4⟩, ⟨b1, b2, b3, b4⟩, q⟩ := h
    refine ⟨_, pss_one (ps_ret (pe_join pe_str (pe_lst (pa_cons (pe_call GC hr (by rfl) gC kC bC .nil pass0 (pa_cons (pe_fld (pv 0) rfl) pa_nil)) (pa_cons (pe_call GP hr (by rfl) gP kP bP .nil pass0 (pa_cons (pe_fld (pv 0) rfl) pa_nil)) pa_nil))))), ?_⟩
    refine ⟨⟨_, rfl⟩, .ref x, rfl, x, C, dx, _, .ref t1, rfl, h1, T.cl, T.nC, rfl, t1, ys, ds, rfl, h2, h3, b1, b3, fun H1 s1 => ?_⟩
    refine ⟨.ref x, rfl, x, C, dx, _, .ref t2, rfl, s1 _ _ h1, T.cl, T.nR, rfl, t2, rs, rfl, s1 _ _ h4, b2, b4, fun H2 s2 => ⟨by show 2 ≤ sizeLine; decide, fun l nl => ?_⟩⟩
    refine ⟨_, l, [rowC ds, rowP rs], rfl, rfl, .inl (SqL.of upd_same), ?_, q _ (s1.trans (s2.trans (same_new nl)))⟩
    have l1 := rowC_len b1 b3
    have l2 := rowP_len b2 b4
    have h2 : (("\n" : Str)).length = 1 := by decide +kernel
    rw [h2]
    show (rowC ds).length + ((rowP rs).length + 0) + 2 * 1 ≤ _
    omega
/-- == of a count and a thing of another type -/
def spEQo (K : PySem.W.Frag) (C : Addr) : Sp := fun vs H Q _ => ∃ (x : Addr) (y : V) (t : Value), vs = [.ref x, y] ∧ TyX K H y t ∧ PySem.W.kitOne K t (.ref C) = some false ∧ Q (.bl false) H
theorem ok_EQo {C f : Addr} {fd : FuncData} {k : Nat} (F : Fun K "__eq__" "Count.__eq__" sEQ f fd) (T : Cnt K C) (S : C8.InsC K C) (gC : mg "Count" = some (.ref C)) (mi : mg "isinstance" = none) : FnOk P w K mg base CX0 (k + 1) f fd ["self", "other"] (spEQo K C) := by
  refine F.ok scEQ (fun vs H Q E h => ?_) (fun cdv A outer s H vs Q E hr h => ?_)
  · obtain ⟨x, y, t, rfl, _⟩ := h
    rfl
  · obtain ⟨x, y, t, rfl, ty, kt, hq⟩ := h
    refine ⟨_, pss_one (ps_ret (pe_and (pe_callB call_isi (by rfl) mi (by decide +kernel) (pa_cons (pv 1) (pa_cons (pe_glob (v := .ref C) (by rfl) gC rfl) pa_nil)))
      (pe_and (pe_cmpR (op_eqD hr.units) (pe_fld (pv 0) rfl) (pe_fld (pv 1) rfl) (nomark _)) (pe_one (pe_cmpR (op_eqD hr.units) (pe_fld (pv 0) rfl) (pe_fld (pv 1) rfl) (nomark _)))))), ?_⟩
    exact ⟨y, rfl, y, .ref C, t, .ref C, false, rfl, .own C, ty, kt, false, rfl, iteF hq⟩
def spEQa (K : PySem.W.Frag) (C : Addr) : Sp := fun vs H Q E => spEQ C vs H Q E ∨ spEQo K C vs H Q E
end
end WN

/-! the once-repeated readings, from a place on -/
namespace KP
open PM
theorem drop_at {ns : List Int} {i : Nat} {r : Int} (h : ns[i]? = some r) : ns.drop i = r :: ns.drop (i + 1) := by
  obtain ⟨h1, h2⟩ := List.getElem?_eq_some_iff.mp h
  rw [List.drop_eq_getElem_cons h1, h2]
/-- what is left of the once-repeated readings from the i-th on -/
def ddr (ns : List Int) : Nat → List Int
  | 0 => dd ns
  | i + 1 => match ns[i]? with
    | some p => ddf p (ns.drop (i + 1))
    | none => []
theorem ddr_first {ns : List Int} {r : Int} (h : ns[0]? = some r) : ddr ns 0 = r :: ddr ns 1 := by
  cases ns with
  | nil => simp at h
  | cons a l =>
    have e : a = r := Option.some.inj h
    subst e
    rfl
theorem ddr_next {ns : List Int} {i : Nat} {p r : Int} (hp : ns[i]? = some p) (h : ns[i + 1]? = some r) : ddr ns (i + 1) = if r = p then ddr ns (i + 2) else r :: ddr ns (i + 2) := by
  show (match ns[i]? with | some p => ddf p (ns.drop (i + 1)) | none => []) = if r = p then (match ns[i + 1]? with | some p => ddf p (ns.drop (i + 2)) | none => []) else r :: (match ns[i + 1]? with | some p => ddf p (ns.drop (i + 2)) | none => [])
  rw [hp, h, drop_at h]
  dsimp only
  simp only [ddf]
  by_cases e : r = p
  · rw [if_pos e, if_pos e, e]
  · rw [if_neg e, if_neg e]
theorem ddr_end (ns : List Int) : ddr ns ns.length = [] := by
  cases h : ns.length with
  | zero =>
    have : ns = [] := List.length_eq_zero_iff.mp h
    rw [this]
    rfl
  | succ n =>
    show (match ns[n]? with | some p => ddf p (ns.drop (n + 1)) | none => []) = []
    have hn : n < ns.length := by omega
    rw [List.getElem?_eq_getElem hn, List.drop_eq_nil_of_le (by omega)]
    rfl
theorem dd_len : ∀ ns : List Int, (dd ns).length ≤ ns.length
  | [] => Nat.le_refl _
  | a :: l => by
    have h : ∀ (l : List Int) (p : Int), (ddf p l).length ≤ l.length := by
      intro l
      induction l with
      | nil => intro p; exact Nat.le_refl _
      | cons x l ih =>
        intro p
        simp only [ddf, List.length_cons]
        split
        · have := ih p; omega
        · have := ih x; rw [List.length_cons]; omega
    have := h l a
    simp only [dd, List.length_cons]
    omega
end KP

/-! the law's own points -/
namespace WF2
open PySem PySem.Spec PyProof.Rows L2 KA PH PM PA PB PC
open KP hiding drop_at
abbrev sLP : Stmt := topS 36
theorem scLP : FnScope ["load", "k", "once", "found"] ["load"] (defScope sLP) := ⟨rfl, rfl, rfl, by decide +kernel, rfl, by decide +kernel, by decide +kernel⟩
def Finv (o : List Int) (j : Nat) (fnd : List Int) : Prop := (o.length ≤ 1 ∧ fnd = o) ∨ (∃ p c, o[j]? = some p ∧ o[j + 1]? = some c ∧ lp o = fnd ++ lq p c (o.drop (j + 2)))
theorem finv_start (o : List Int) : Finv o 0 (o.take 1) := by
  match o with
  | [] => exact .inl ⟨Nat.zero_le _, rfl⟩
  | [x] => exact .inl ⟨Nat.le_refl _, rfl⟩
  | x :: y :: l => exact .inr ⟨x, y, rfl, rfl, rfl⟩
theorem drop_cons {o : List Int} {i : Nat} {r : Int} (h : o[i]? = some r) : o.drop i = r :: o.drop (i + 1) := drop_at h
section
variable {P : Program} {w : World} {K : PySem.W.Frag} {mg : Str → Option Value} {base : Heap}
def spLP (K : PySem.W.Frag) : Sp := fun vs H Q _ => ∃ (a : Addr) (ns : List Int), vs = [.ref a] ∧ SqL K H a (ns.map V.int) ∧ ns.length ≤ 21000 ∧ ∀ H' p, Same H H' → H p = none → H' p = some (.lst ((tp ns).map V.int)) → Q (.ref p) H'
theorem ok_LP {f : Addr} {fd : FuncData} {k : Nat} (F : Fun K "_law_points" "_law_points" sLP f fd) (ml : mg "len" = none) (mr : mg "range" = none) (mi : mg "int" = none) : FnOk P w K mg base CX0 (k + 1) f fd ["load"] (spLP K) := by
  refine F.ok scLP (fun vs H Q E h => ?_) (fun cdv A outer s H vs Q E hr h => ?_)
  · obtain ⟨a, ns, rfl, _⟩ := h
    rfl
  · obtain ⟨a, ns, rfl, hS, hlen, hq⟩ := h
    refine ⟨_, pss_cons (ps_setLc (i := 2) (own := [("k", 1)]) (g := gName 1) (tt := tOr (tTest (tOp rEq (tVar 1) (tC (V.int 0)))) (tTest (tOp rNe (tOp (rIxL K) (tVar 0) (tVar 1)) (tOp (rIxL K) (tVar 0) (tOp (rI0 fun i j => .int (i - j)) (tVar 1) (tC (V.int 1))))))) (te := tOp (rIxL K) (tVar 0) (tVar 1)) rfl scLP.nd rfl rfl (sw_true rfl rfl rfl (by decide +kernel)) (pi_range1 rfl mr (pa_cons (pe_callB call_len_seq (by rfl) ml PySem.boot_len (pa_cons (pv 0) pa_nil)) pa_nil))
        (blkOk_by (own := [("k", 1)]) (N := ["load", "k", "once", "found"]) (sc := defScope sLP) (by decide +kernel))
        (fun _ _ _ _ _ => pg_name (i := 1) scLP.nd rfl (Or.inl rfl) (Or.inr rfl))
        (fun _ _ _ _ _ => pts_one (PW.pt (pw_or (pt_cmpR op_eq (pv 1) pe_int (nomark _)) (pw_or1 (pt_cmpR op_ne (pe_ix ix_list (pv 0) (pv 1) (fun _ _ => rfl)) (pe_ix ix_list (pv 0) (pe_op op_sub (pv 1) pe_int) (fun _ _ => rfl)) (nomark _))))))
        (fun _ _ _ _ _ => pe_ix ix_list (pv 0) (pv 1) (fun _ _ => rfl)))
      (pss_cons (ps_set (i := 3) scLP.nd rfl (.inl rfl) (pe_slice sl_list (pv 2) po_none (po_some pe_int)))
      (pss_cons (ps_for PassesOwn.never rfl (pi_range2 (by rfl) mr (pa_cons pe_int (pa_cons (pe_op op_sub (pe_callB call_len_seq (by rfl) ml PySem.boot_len (pa_cons (pv 2) pa_nil)) pe_int) pa_nil))) (pg_name (i := 1) scLP.nd rfl (.inl rfl))
        (pss_one (ps_if (pt_cmpR op_eq (pe_cmpR op_gt (pe_ix ix_list (pv 2) (pv 1) (fun _ _ => rfl)) (pe_ix ix_list (pv 2) (pe_op op_sub (pv 1) pe_int) (fun _ _ => rfl)) (nomark _)) (pe_cmpR op_gt (pe_ix ix_list (pv 2) (pv 1) (fun _ _ => rfl)) (pe_ix ix_list (pv 2) (pe_op op_add (pv 1) pe_int) (fun _ _ => rfl)) (nomark _)) (nomark _))
          (pss_one (ps_expr (pe_bm PySem.F.plainAttrs_list PySem.F.slot_list_append PySem.F.type_list_append mt_append (pv 3) (pa_cons (pe_ix ix_list (pv 2) (pv 1) (fun _ _ => rfl)) pa_nil)))) pss_nil)))
      (pss_one (ps_ret (pe_op op_cat (pv 3) (pe_slice sl_list (pv 2) (po_some (pe_op op_sub (pe_callB call_len_seq (by rfl) ml PySem.boot_len (pa_cons (pv 2) pa_nil)) (pe_callTy call_int1 (by rfl) mi (by decide +kernel) (pa_cons (pe_cmpR op_gt (pe_callB call_len_seq (by rfl) ml PySem.boot_len (pa_cons (pv 2) pa_nil)) pe_int (nomark _)) pa_nil)))) po_none)))))), ?_⟩
    have hml : (ns.map V.int).length = ns.length := List.length_map _
    refine ⟨.ref a, rfl, a, ns.map V.int, rfl, .inl hS, ((ns.map V.int).length : Int), rfl, by rw [hml]; omega, by rw [hml]; omega, fun D nD => ?_⟩
    have sD : ∀ o, Same H (upd H D o) := fun o => same_new nD
    refine lc_range (lo := 0) (n := (((ns.map V.int).length : Int)).toNat) (fun i H' => ∃ acc : List Int, H' = upd H D (.lst (acc.map V.int)) ∧ acc.length ≤ i ∧ dd ns = acc ++ ddr ns i) ?_ ?_ ?_
    · exact ⟨[], rfl, Nat.le_refl _, rfl⟩
    · rintro i H' hi ⟨acc, rfl, hal, hac⟩
      have hin : i < ns.length := by omega
      have ei : ns[i]? = some ns[i] := List.getElem?_eq_getElem hin
      have ax : atI (ns.map V.int) (0 + (i : Int)) = some (.int ns[i]) := at_of (by omega) (at_int ei)
      have elt : acc.length < sizeLine := small22000 (by omega)
      have grow : ∀ x : Int, upd (upd H D (.lst (acc.map V.int))) D (.lst (acc.map V.int ++ [.int x])) = upd H D (.lst ((acc ++ [x]).map V.int)) := fun x => by rw [upd_upd, List.map_append]; rfl
      refine ⟨rfl, .int (0 + (i : Int)), rfl, rfl, _, rfl, ?_⟩
      cases i with
      | zero =>
        refine iteT (iteT ⟨.ref a, rfl, _, rfl, a, _, _, .int ns[0], rfl, rfl, (sD _).seq hS, ax, acc.map V.int, upd_same, by rw [List.length_map]; exact elt, acc ++ [ns[0]], grow _, by rw [List.length_append, List.length_singleton]; omega, ?_⟩)
        rw [hac, ddr_first ei, List.append_assoc]
        rfl
      | succ m =>
        have hne : decide (V.int (0 + ((m + 1 : Nat) : Int)) = V.int 0) = false := decide_eq_false fun z => by have := V.int.inj z; omega
        rw [hne]
        have hm : m < ns.length := by omega
        have em : ns[m]? = some ns[m] := List.getElem?_eq_getElem hm
        have nx := ddr_next em ei
        refine iteF ⟨.ref a, rfl, .int (0 + ((m + 1 : Nat) : Int)), rfl, a, _, _, .int ns[m + 1], rfl, rfl, (sD _).seq hS, ax, .ref a, rfl, .int (0 + ((m + 1 : Nat) : Int)), rfl, _, 1, rfl, rfl, a, _, _, .int ns[m], rfl, rfl, (sD _).seq hS, at_of (by omega) (at_int em), rfl, _, rfl, ?_⟩
        by_cases e : ns[m + 1] = ns[m]
        · rw [decide_eq_true (show V.int ns[m + 1] = V.int ns[m] by rw [e])]
          refine iteF ⟨acc, rfl, by omega, ?_⟩
          rw [if_pos e] at nx
          rw [hac, nx]
        · rw [decide_eq_false (show ¬ V.int ns[m + 1] = V.int ns[m] from fun z => e (V.int.inj z))]
          refine iteT ⟨.ref a, rfl, _, rfl, a, _, _, .int ns[m + 1], rfl, rfl, (sD _).seq hS, ax, acc.map V.int, upd_same, by rw [List.length_map]; exact elt, acc ++ [ns[m + 1]], grow _, by rw [List.length_append, List.length_singleton]; omega, ?_⟩
          rw [if_neg e] at nx
          rw [hac, nx, List.append_assoc]
          rfl
    rintro H' ⟨acc, rfl, hal, hac⟩
    have en : (((ns.map V.int).length : Int)).toNat = ns.length := by rw [hml]; omega
    rw [en, ddr_end, List.append_nil] at hac
    subst hac
    generalize ho : dd ns = o
    have hol : o.length ≤ 21000 := by rw [← ho]; exact Nat.le_trans (dd_len ns) hlen
    have hom : (o.map V.int).length = o.length := List.length_map _
    -- found
    refine ⟨.ref D, rfl, 1, rfl, D, o.map V.int, rfl, SqL.of upd_same, fun c nc => ?_⟩
    have ncD : c ≠ D := fun z => by rw [z, upd_same] at nc; cases nc
    have hc0 : H c = none := (sD _).free nc
    have e1 : cutV (o.map V.int) none (some 1) = (o.take 1).map V.int := by
      rw [show (some (1 : Int)) = some ((1 : Nat) : Int) from rfl, cut_to, List.map_take]
    rw [e1]
    have onD : ∀ u, (upd (upd H D (.lst (o.map V.int))) c u) D = some (.lst (o.map V.int)) := fun u => by rw [upd_ne ncD.symm, upd_same]
    refine ⟨.ref D, rfl, D, o.map V.int, rfl, .inl (SqL.of (onD _)), _, 1, rfl, rfl, 1, _, rfl, ⟨by decide, by decide, by rw [hom]; omega, by rw [hom]; omega⟩, for_range (lo := 1) (n := ((((o.map V.int).length : Int) - 1) - 1).toNat)
      (fun j σ H' => ∃ (fnd : List Int) (r1 : Option V), σ = [some (.ref a), r1, some (.ref D), some (.ref c)] ∧ H' = upd (upd H D (.lst (o.map V.int))) c (.lst (fnd.map V.int)) ∧ Finv o j fnd ∧ fnd.length ≤ j + 1) ?_ ?_ ?_⟩
    · exact ⟨o.take 1, _, rfl, rfl, finv_start o, by rw [List.length_take]; omega⟩
    · rintro j σ H' hj ⟨fnd, r1, rfl, rfl, inv, hfl⟩
      rw [hom] at hj
      rcases inv with ⟨h1, _⟩ | ⟨p, cc, hp, hcc, hlp⟩
      · omega
      · have hj2 : j + 2 < o.length := by omega
        have hd : o[j + 2]? = some o[j + 2] := List.getElem?_eq_getElem hj2
        have dc := drop_cons hd
        refine ⟨.ref D, rfl, .int (1 + (j : Int)), rfl, D, _, _, .int cc, rfl, rfl, SqL.of (onD _), at_of (j := j + 1) (by omega) (at_int hcc), .ref D, rfl, .int (1 + (j : Int)), rfl, _, 1, rfl, rfl, D, _, _, .int p, rfl, rfl, SqL.of (onD _), at_of (j := j) (by omega) (at_int hp), cc, p, rfl, rfl, ?_⟩
        refine ⟨.ref D, rfl, .int (1 + (j : Int)), rfl, D, _, _, .int cc, rfl, rfl, SqL.of (onD _), at_of (j := j + 1) (by omega) (at_int hcc), .ref D, rfl, .int (1 + (j : Int)), rfl, _, 1, rfl, rfl, D, _, _, .int o[j + 2], rfl, rfl, SqL.of (onD _), at_of (j := j + 2) (by omega) (at_int hd), cc, o[j + 2], rfl, rfl, rfl, _, rfl, ?_⟩
        rw [dc] at hlp
        simp only [lq] at hlp
        by_cases e : decide (cc > p) = decide (cc > o[j + 2])
        · rw [decide_eq_true (show V.bl (decide (cc > p)) = V.bl (decide (cc > o[j + 2])) by rw [e])]
          rw [if_pos e] at hlp
          refine iteT ⟨.ref c, rfl, .inl ⟨rfl, _, SqL.of upd_same⟩, .ref D, rfl, .int (1 + (j : Int)), rfl, D, _, _, .int cc, rfl, rfl, SqL.of (onD _), at_of (j := j + 1) (by omega) (at_int hcc), c, _, _, rfl, rfl, upd_same, by rw [List.length_map]; exact small22000 (by omega),
            fnd ++ [cc], _, rfl, by rw [upd_upd, List.map_append]; rfl, .inr ⟨cc, o[j + 2], hcc, hd, by rw [hlp, List.append_assoc]; rfl⟩, by rw [List.length_append, List.length_singleton]; omega⟩
        · rw [decide_eq_false (show ¬ V.bl (decide (cc > p)) = V.bl (decide (cc > o[j + 2])) from fun z => e (V.bl.inj z))]
          rw [if_neg e] at hlp
          exact iteF ⟨fnd, _, rfl, rfl, .inr ⟨cc, o[j + 2], hcc, hd, hlp⟩, by omega⟩
    · rintro σ H' ⟨fnd, r1, rfl, rfl, inv, hfl⟩
      refine ⟨.ref c, rfl, .ref D, rfl, .ref D, rfl, D, o.map V.int, rfl, .inl (SqL.of (onD _)), .ref D, rfl, D, o.map V.int, rfl, .inl (SqL.of (onD _)), _, 1, rfl, rfl, .inr ⟨_, rfl, _, _, rfl, rfl, _, rfl, D, o.map V.int, rfl, SqL.of (onD _), fun e ne => ?_⟩⟩
      have nec : c ≠ e := fun z => by rw [← z, upd_same] at ne; cases ne
      obtain ⟨z, hz, tail⟩ : ∃ z : Nat, (((o.map V.int).length : Int) - (if decide (((o.map V.int).length : Int) > 1) = true then 1 else 0)) = (z : Int) ∧ fnd ++ o.drop z = lp o := by
        rw [hom] at *
        rcases inv with ⟨h1, h2⟩ | ⟨p, cc, hp, hcc, hlp⟩
        · refine ⟨o.length, ?_, ?_⟩
          · rw [if_neg (by rw [decide_eq_true_eq]; omega)]
            omega
          · rw [h2, List.drop_length, List.append_nil]
            match o, h1 with
            | [], _ => rfl
            | [_], _ => rfl
        · have h2 : 2 ≤ o.length := by have := (List.getElem?_eq_some_iff.mp hcc).1; omega
          have ej : ((((o.length : Int) - 1) - 1).toNat) = o.length - 2 := by omega
          rw [ej] at hp hcc hlp
          have e3 : o.length - 2 + 2 = o.length := by omega
          have e4 : o.length - 2 + 1 = o.length - 1 := by omega
          rw [e3, List.drop_length] at hlp
          rw [e4] at hcc
          refine ⟨o.length - 1, ?_, ?_⟩
          · rw [if_pos (decide_eq_true (by omega))]
            omega
          · rw [hlp, drop_cons hcc, List.drop_eq_nil_of_le (by omega)]
            rfl
      have et : cutV (o.map V.int) (some (((o.map V.int).length : Int) - (if decide (((o.map V.int).length : Int) > 1) = true then 1 else 0))) none = (o.drop z).map V.int := by rw [hz, cut_from, List.map_drop]
      have sE : Same H (upd (upd (upd H D (.lst (o.map V.int))) c (.lst (fnd.map V.int))) e (.lst (cutV (o.map V.int) (some (((o.map V.int).length : Int) - (if decide (((o.map V.int).length : Int) > 1) = true then 1 else 0))) none))) :=
        ((sD _).trans (same_new nc)).trans (same_new ne)
      have lf : (fnd.map V.int).length ≤ 21001 := by rw [List.length_map]; rw [hom] at hfl; omega
      have lt : ((o.drop z).map V.int).length ≤ 21000 := by rw [List.length_map, List.length_drop]; omega
      refine ⟨c, e, fnd.map V.int, (o.drop z).map V.int, rfl, rfl, by rw [upd_ne nec, upd_same], by rw [upd_same]; exact congrArg (fun u => some (HO.lst u)) et, Nat.le_of_lt (Nat.lt_of_le_of_lt (Nat.add_le_add lf lt) (by decide)), fun g ng => ?_⟩
      refine hq _ g (sE.trans (same_new ng)) (sE.free ng) ?_
      rw [upd_same, ← List.map_append, tail, tp_lp, ho]
end
end WF2

/-! a call of a def that wants to know that no repr is under way -/
namespace GK
open PySem PySem.Spec PyProof.Rows L2 KW
section
variable {X : Cx} {k : Nat} {f : Addr} {fd : FuncData} {ps : List Str} {sp : Sp} {dvs : List V} {ds : List Value} {E : XK} {x : Str} {p pos : Pos} {e : Expr} {es : List Expr} {t : TA}
theorem pe_callG (F : Kept X.prog X.w X.K X.mg X.base k f fd ps sp) (hgd : X.A.guards = some []) (len : ∀ vs H Q E, sp vs H Q E → vs.length = ps.length) (hr : Room k X.A) (hg : Gl X x) (hm : X.mg x = some (.ref f)) (hk : PySem.W.keepIn X.K (.ref f) = true) (hb : Binds X.K fd ps ds) (hd : Vals dvs ds) (hx : Passes CX0 X E)
    (ha : PA X (e :: es) t) (hdb : (x == ("__debug__" : Str)) = false := by decide) (he : starEach (e :: es) X.env = (false, eval e X.env) :: starEach es X.env := by rfl) (hpl : (backTo pos (starEach es X.env)).any (·.1) = false := by rfl) :
    PE X (.Call (.Name x p) (e :: es) [] pos) (tCall sp dvs E t) := by
  refine ⟨fun pins s σ H Q I h => ?_⟩
  refine wpAny_Call_Name_kw (ld_glob I hg hm ?_ hdb)
  refine PySem.W.callWith_K (h₀ := X.base) I.ok.mod.kin hk (thn (ha.run pos pins s σ H _ I h) fun us s1 ⟨vs, H1, I1, r, q⟩ => ⟨I1.kIn, ?_⟩) he hpl
  have r2 : Vals (vs ++ dvs) (us ++ ds) := r.append hd
  have hl : (us ++ ds).length = ps.length := by rw [← r2.length]; exact len _ _ _ _ q
  refine wpAny_call (codeAny_mono (F X.A X.stack s1 H1 ⟨us, []⟩ (us ++ ds) (vs ++ dvs) Q E hgd hr I1.env0 (hb s1 us I1.kIn hl) r2 q) fun r s' hq => ?_)
  cases r with
  | error e => exact hx pins σ H1 s1 e s' I1 hq
  | ok fl =>
    cases fl with
    | ret u => exact I1.after hq
    | next => exact False.elim hq
    | brk => exact False.elim hq
    | cont => exact False.elim hq
end
end GK

/-! k04's own defs: ranges, places, the count, the halves -/
namespace WP
open PySem PySem.Spec PyProof.Rows L2 KA KD KL PH PM PA PB PC RM RN QE QF QG QH QK QL WN WF2
abbrev sLR : Stmt := topS 37
abbrev sLH : Stmt := topS 38
abbrev sPl : Stmt := topS 39
abbrev sCt : Stmt := topS 40
abbrev sHv : Stmt := topS 41
theorem scLR : FnScope ["one", "other"] ["one", "other"] (defScope sLR) := ⟨rfl, rfl, rfl, by decide +kernel, rfl, by decide +kernel, by decide +kernel⟩
theorem scLH : FnScope ["outer", "inner"] ["outer", "inner"] (defScope sLH) := ⟨rfl, rfl, rfl, by decide +kernel, rfl, by decide +kernel, by decide +kernel⟩
theorem scPl : FnScope ["points", "found", "k", "inner"] ["points"] (defScope sPl) := ⟨rfl, rfl, rfl, by decide +kernel, rfl, by decide +kernel, by decide +kernel⟩
theorem scCt : FnScope ["feed", "load", "points", "cycles", "point"] ["feed", "load"] (defScope sCt) := ⟨rfl, rfl, rfl, by decide +kernel, rfl, by decide +kernel, by decide +kernel⟩
theorem scHv : FnScope ["cycles", "rest", "found", "k"] ["cycles", "rest"] (defScope sHv) := ⟨rfl, rfl, rfl, by decide +kernel, rfl, by decide +kernel, by decide +kernel⟩
theorem cutv_to (xs : List V) (j : Nat) : cutV xs none (some (j : Int)) = xs.take j := by
  unfold cutV
  rw [HT.sIx_nat xs.length xs.length j, HT.sIx_none]
  rw [List.drop_zero, Nat.sub_zero]
  by_cases h : j ≤ xs.length
  · rw [Nat.min_eq_left h]
  · rw [Nat.min_eq_right (by omega), List.take_length, List.take_of_length_le (by omega)]
theorem cutv_from (xs : List V) (j : Nat) : cutV xs (some (j : Int)) none = xs.drop j := by
  unfold cutV
  rw [HT.sIx_nat xs.length 0 j, HT.sIx_none]
  by_cases h : j ≤ xs.length
  · rw [Nat.min_eq_left h, List.take_of_length_le (by rw [List.length_drop]; exact Nat.le_refl _)]
  · rw [Nat.min_eq_right (by omega), Nat.sub_self, List.take_zero, List.drop_of_length_le (by omega)]
theorem Ch.tup {f t : Addr} {H H' : Hp} {xs : List V} (c : Ch f H H') (fe : FeedAt H f) (h : H t = some (.tup xs)) : H' t = some (.tup xs) := by
  refine c _ _ (fun z => ?_) h
  obtain ⟨d, st, _, _, _, e⟩ := fe
  rw [z, e] at h
  cases h
theorem pairs_but {E : Addr} {H H' : Hp} {acc : List V} (k : ∀ b o, b ≠ E → H b = some o → H' b = some o) (hE : H E = some (.lst acc)) : ∀ {xs : List V} {rs : List (Int × Int)}, PairsAt H xs rs → PairsAt H' xs rs
  | [], [], _ => trivial
  | x :: xs, r :: rs, ⟨⟨p, h1, h2⟩, h3⟩ => ⟨⟨p, h1, k _ _ (fun z => by rw [z, hE] at h2; cases h2) h2⟩, pairs_but k hE h3⟩
  | [], _ :: _, h => h.elim
  | _ :: _, [], h => h.elim
theorem pairs_ch {f : Addr} {H H' : Hp} (c : Ch f H H') (fe : FeedAt H f) {xs : List V} {rs : List (Int × Int)} (h : PairsAt H xs rs) : PairsAt H' xs rs := by
  obtain ⟨d, st, _, _, _, e⟩ := fe
  exact pairs_but c e h
theorem CountAt.but {H H' : Hp} {E C x : Addr} {acc : List V} {ds : List (Int × Int)} {rs : List Int} (h : CountAt H C x ds rs) (k : ∀ b o, b ≠ E → H b = some o → H' b = some o) (hE : H E = some (.lst acc)) : CountAt H' C x ds rs := by
  obtain ⟨dx, t1, t2, ys, h1, h2, h3, h4⟩ := h
  exact ⟨dx, t1, t2, ys, k _ _ (fun z => by rw [z, hE] at h1; cases h1) h1, k _ _ (fun z => by rw [z, hE] at h2; cases h2) h2, pairs_but k hE h3, k _ _ (fun z => by rw [z, hE] at h4; cases h4) h4⟩
theorem CountAt.ch {H H' : Hp} {f C x : Addr} {ds : List (Int × Int)} {rs : List Int} (h : CountAt H C x ds rs) (c : Ch f H H') (fe : FeedAt H f) : CountAt H' C x ds rs := by
  obtain ⟨d, st, _, _, _, e⟩ := fe
  exact CountAt.but h c e
theorem plc_len (qs : List Int) : (plc qs).length ≤ qs.length - 3 := by
  unfold plc
  rw [List.length_map]
  have := List.length_filter_le (takenAt qs) (List.range (qs.length - 3))
  rw [List.length_range] at this
  exact this
section
variable {P : Program} {w : World} {K : PySem.W.Frag} {mg : Str → Option Value} {base : Heap}
theorem ok_LR {f : Addr} {fd : FuncData} {k : Nat} (F : Fun K "_law_range" "_law_range" sLR f fd) (mn : mg "min" = none) (mx : mg "max" = none) : FnOk P w K mg base CX0 (k + 1) f fd ["one", "other"] spRng := by
  refine F.ok scLR (fun vs H Q E h => ?_) (fun cdv A outer s H vs Q E hr h => ?_)
  · obtain ⟨a, b, rfl, _⟩ := h
    rfl
  · obtain ⟨a, b, rfl, hq⟩ := h
    refine ⟨_, pss_one (ps_ret (pe_tup (pa_cons (pe_callB (call_min2 rfl) (by rfl) mn (by decide +kernel) (pa_cons (pv 0) (pa_cons (pv 1) pa_nil))) (pa_cons (pe_callB (call_max2 rfl) (by rfl) mx (by decide +kernel) (pa_cons (pv 0) (pa_cons (pv 1) pa_nil))) pa_nil)))), ?_⟩
    exact ⟨.int a, rfl, .int b, rfl, a, b, rfl, .int a, rfl, .int b, rfl, a, b, rfl, by show 2 ≤ sizeLine; decide, fun p np => hq p np⟩
theorem ok_LH {f : Addr} {fd : FuncData} {k : Nat} (F : Fun K "_law_holds" "_law_holds" sLH f fd) : FnOk P w K mg base CX0 (k + 1) f fd ["outer", "inner"] (spCont K) := by
  refine F.ok scLH (fun vs H Q E h => ?_) (fun cdv A outer s H vs Q E hr h => ?_)
  · obtain ⟨p, q, a, b, c, d, rfl, _⟩ := h
    rfl
  · obtain ⟨p, q, a, b, c, d, rfl, h1, h2, hq⟩ := h
    refine ⟨_, pss_one (ps_ret (pe_and (pe_cmpR op_le (pe_ix ix_tup (pv 0) pe_int (fun _ _ => rfl)) (pe_ix ix_tup (pv 1) pe_int (fun _ _ => rfl)) (nomark _)) (pe_one (pe_cmpR op_le (pe_ix ix_tup (pv 1) pe_int (fun _ _ => rfl)) (pe_ix ix_tup (pv 0) pe_int (fun _ _ => rfl)) (nomark _))))), ?_⟩
    refine ⟨.ref p, rfl, p, _, 0, .int a, rfl, rfl, h1, rfl, .ref q, rfl, q, _, 0, .int c, rfl, rfl, h2, rfl, a, c, rfl, rfl, _, rfl, ?_⟩
    by_cases e : a ≤ c
    · rw [decide_eq_true e] at hq ⊢
      exact iteT ⟨.ref q, rfl, q, _, 1, .int d, rfl, rfl, h2, rfl, .ref p, rfl, p, _, 1, .int b, rfl, rfl, h1, rfl, d, b, rfl, rfl, hq⟩
    · rw [decide_eq_false e] at hq ⊢
      exact iteF hq
def spPl (K : PySem.W.Frag) : Sp := fun vs H Q _ => ∃ (a : Addr) (ps : List Int), vs = [.ref a] ∧ SqL K H a (ps.map V.int) ∧ ps.length ≤ 21000 ∧ ∀ H' p, Same H H' → H p = none → H' p = some (.lst ((plc ps).map V.int)) → Q (.ref p) H'
theorem ok_pl {f fR fC : Addr} {fd dR dC : FuncData} {k : Nat} (F : Fun K "_law_places" "_law_places" sPl f fd)
    (GR : FnOk P w K mg base CX0 (k + 1) fR dR ["one", "other"] spRng) (gR : mg "_law_range" = some (.ref fR)) (kR : PySem.W.keepIn K (.ref fR) = true) (bR : Binds K dR ["one", "other"] [])
    (GC : FnOk P w K mg base CX0 (k + 1) fC dC ["outer", "inner"] (spCont K)) (gC : mg "_law_holds" = some (.ref fC)) (kC : PySem.W.keepIn K (.ref fC) = true) (bC : Binds K dC ["outer", "inner"] [])
    (ml : mg "len" = none) (mr : mg "range" = none) : FnOk P w K mg base CX0 (k + 2) f fd ["points"] (spPl K) := by
  refine F.ok scPl (fun vs H Q E h => ?_) (fun cdv A outer s H vs Q E hr h => ?_)
  · obtain ⟨a, ps, rfl, _⟩ := h
    rfl
  · obtain ⟨a, ps, rfl, hS, hlen, hq⟩ := h
    refine ⟨_, pss_cons (ps_set (i := 1) scPl.nd rfl (.inl rfl) (pe_lst pa_nil))
      (pss_cons (ps_for PassesOwn.never rfl (pi_range2 (by rfl) mr (pa_cons pe_int (pa_cons (pe_op op_sub (pe_callB call_len_seq (by rfl) ml PySem.boot_len (pa_cons (pv 0) pa_nil)) pe_int) pa_nil))) (pg_name (i := 2) scPl.nd rfl (.inl rfl))
        (pss_cons (ps_set (i := 3) scPl.nd rfl (.inl rfl) (pe_call GR hr (by rfl) gR kR bR .nil pass0 (pa_cons (pe_ix ix_list (pv 0) (pv 2) (fun _ _ => rfl)) (pa_cons (pe_ix ix_list (pv 0) (pe_op op_add (pv 2) pe_int) (fun _ _ => rfl)) pa_nil))))
        (pss_one (ps_if (pt_val (pe_call GC hr (by rfl) gC kC bC .nil pass0 (pa_cons (pe_call GR hr (by rfl) gR kR bR .nil pass0 (pa_cons (pe_ix ix_list (pv 0) (pe_op op_sub (pv 2) pe_int) (fun _ _ => rfl)) (pa_cons (pe_ix ix_list (pv 0) (pv 2) (fun _ _ => rfl)) pa_nil))) (pa_cons (pv 3) pa_nil))))
          (pss_one (ps_if (pt_val (pe_call GC hr (by rfl) gC kC bC .nil pass0 (pa_cons (pe_call GR hr (by rfl) gR kR bR .nil pass0 (pa_cons (pe_ix ix_list (pv 0) (pe_op op_add (pv 2) pe_int) (fun _ _ => rfl)) (pa_cons (pe_ix ix_list (pv 0) (pe_op op_add (pv 2) pe_int) (fun _ _ => rfl)) pa_nil))) (pa_cons (pv 3) pa_nil))))
            (pss_one (ps_expr (pe_bm PySem.F.plainAttrs_list PySem.F.slot_list_append PySem.F.type_list_append mt_append (pv 1) (pa_cons (pv 2) pa_nil)))) pss_nil)) pss_nil))))
      (pss_one (ps_ret (pv 1)))), ?_⟩
    have hm : (ps.map V.int).length = ps.length := List.length_map _
    refine ⟨Nat.zero_le _, fun D nD => ?_⟩
    have sD := same_new (o := .lst []) nD
    refine ⟨.ref a, rfl, a, _, rfl, .inl (sD.seq hS), _, 2, rfl, rfl, 1, _, rfl, ⟨by decide, by decide, by rw [hm]; omega, by rw [hm]; omega⟩, for_range (lo := 1) (n := ((((ps.map V.int).length : Int) - 2) - 1).toNat) (fun i σ H' => Same H H' ∧ H' D = some (.lst ((((List.range i).filter (takenAt ps)).map fun (i : Nat) => (i : Int) + 1).map V.int)) ∧ ∃ r2 r3 : Option V, σ = [some (.ref a), some (.ref D), r2, r3]) ⟨sD, upd_same, _, _, rfl⟩ ?_ ?_⟩
    · rintro i σ H' hi ⟨sm, eD, r2, r3, rfl⟩
      rw [hm] at hi
      have hl : i + 3 < ps.length := by omega
      have ez : (1 : Int) + (i : Int) = (i : Int) + 1 := by omega
      obtain ⟨x, e0⟩ : ∃ x, ps[i]? = some x := ⟨_, List.getElem?_eq_getElem (by omega)⟩
      obtain ⟨y, e1⟩ : ∃ x, ps[i + 1]? = some x := ⟨_, List.getElem?_eq_getElem (by omega)⟩
      obtain ⟨t, e2⟩ : ∃ x, ps[i + 2]? = some x := ⟨_, List.getElem?_eq_getElem (by omega)⟩
      obtain ⟨u, e3⟩ : ∃ x, ps[i + 3]? = some x := ⟨_, List.getElem?_eq_getElem (by omega)⟩
      have a0 : atI (ps.map V.int) (1 + (i : Int) - 1) = some (.int x) := at_of (j := i) (by omega) (at_int e0)
      have a1 : atI (ps.map V.int) (1 + (i : Int)) = some (.int y) := at_of (j := i + 1) (by omega) (at_int e1)
      have a2 : atI (ps.map V.int) (1 + (i : Int) + 1) = some (.int t) := at_of (j := i + 2) (by omega) (at_int e2)
      have a3 : atI (ps.map V.int) (1 + (i : Int) + 2) = some (.int u) := at_of (j := i + 3) (by omega) (at_int e3)
      have hSm := sm.seq hS
      have tk := taken_get e0 e1 e2 e3
      have eT : decide (Taken x y t u) = ((decide ((rg x y).1 ≤ (rg y t).1) && decide ((rg y t).2 ≤ (rg x y).2)) && (decide ((rg t u).1 ≤ (rg y t).1) && decide ((rg y t).2 ≤ (rg t u).2))) := by
        unfold Taken
        simp only [Bool.decide_and]
      rw [eT] at tk
      have skip : ∀ {Hz : Hp}, Same H' Hz → takenAt ps i = false → Same H Hz ∧ Hz D = some (.lst ((((List.range (i + 1)).filter (takenAt ps)).map fun (i : Nat) => (i : Int) + 1).map V.int)) := fun {Hz} sz ht => by
        refine ⟨sm.trans sz, ?_⟩
        rw [List.range_succ, List.filter_append, List.filter_cons, ht]
        simp
        rw [sz _ _ eD]
        simp
      refine ⟨.ref a, rfl, .int (1 + (i : Int)), rfl, a, _, _, _, rfl, rfl, hSm, a1, .ref a, rfl, .int (1 + (i : Int)), rfl, _, 1, rfl, rfl, a, _, _, _, rfl, rfl, hSm, a2, y, t, rfl, fun p1 n1 => ?_⟩
      have s1 := same_new (o := .tup [.int (rg y t).1, .int (rg y t).2]) n1
      have g1 := upd_same (H := H') (a := p1) (o := .tup [.int (rg y t).1, .int (rg y t).2])
      generalize upd H' p1 (.tup [.int (rg y t).1, .int (rg y t).2]) = H1 at s1 g1 ⊢
      refine ⟨.ref a, rfl, .int (1 + (i : Int)), rfl, _, 1, rfl, rfl, a, _, _, _, rfl, rfl, s1.seq hSm, a0, .ref a, rfl, .int (1 + (i : Int)), rfl, a, _, _, _, rfl, rfl, s1.seq hSm, a1, x, y, rfl, fun p2 n2 => ?_⟩
      have s2 := same_new (o := .tup [.int (rg x y).1, .int (rg x y).2]) n2
      have g2 := upd_same (H := H1) (a := p2) (o := .tup [.int (rg x y).1, .int (rg x y).2])
      have g12 := s2 _ _ g1
      generalize upd H1 p2 (.tup [.int (rg x y).1, .int (rg x y).2]) = H2 at s2 g2 g12 ⊢
      refine ⟨.ref p1, rfl, p2, p1, _, _, _, _, rfl, SqT.of g2, SqT.of g12, _, rfl, ?_⟩
      cases h1 : (decide ((rg x y).1 ≤ (rg y t).1) && decide ((rg y t).2 ≤ (rg x y).2)) with
      | false =>
        rw [h1, Bool.false_and] at tk
        obtain ⟨z1, z2⟩ := skip (s1.trans s2) tk
        exact iteF ⟨z1, z2, _, _, rfl⟩
      | true =>
        rw [h1, Bool.true_and] at tk
        refine iteT ⟨.ref a, rfl, .int (1 + (i : Int)), rfl, _, 1, rfl, rfl, a, _, _, _, rfl, rfl, (s1.trans s2).seq hSm, a2, .ref a, rfl, .int (1 + (i : Int)), rfl, _, 2, rfl, rfl, a, _, _, _, rfl, rfl, (s1.trans s2).seq hSm, a3, t, u, rfl, fun p3 n3 => ?_⟩
        have s3 := same_new (o := .tup [.int (rg t u).1, .int (rg t u).2]) n3
        have g3 := upd_same (H := H2) (a := p3) (o := .tup [.int (rg t u).1, .int (rg t u).2])
        have g13 := s3 _ _ g12
        generalize upd H2 p3 (.tup [.int (rg t u).1, .int (rg t u).2]) = H3 at s3 g3 g13 ⊢
        have s13 := s1.trans (s2.trans s3)
        refine ⟨.ref p1, rfl, p3, p1, _, _, _, _, rfl, SqT.of g3, SqT.of g13, _, rfl, ?_⟩
        rw [← tk]
        cases ht : takenAt ps i with
        | true =>
          refine iteT ⟨.ref D, rfl, .inl ⟨rfl, _, SqL.of (s13 _ _ eD)⟩, .int (1 + (i : Int)), rfl, D, _, _, rfl, rfl, s13 _ _ eD, ?_, same_again nD (sm.trans s13), ?_, _, _, rfl⟩
          · rw [List.length_map, List.length_map]
            have := List.length_filter_le (takenAt ps) (List.range i)
            rw [List.length_range] at this
            exact small22000 (by omega)
          · rw [upd_same, List.range_succ, List.filter_append, List.filter_cons, ht, ez]
            simp [List.map_append]
        | false =>
          obtain ⟨z1, z2⟩ := skip s13 ht
          exact iteF ⟨z1, z2, _, _, rfl⟩
    · rintro σ H' ⟨sm, eD, r2, r3, rfl⟩
      have en : ((((ps.map V.int).length : Int) - 2) - 1).toNat = ps.length - 3 := by rw [hm]; omega
      rw [en] at eD
      exact ⟨.ref D, rfl, hq _ D sm nD eD⟩
def spHv (K : PySem.W.Frag) : Sp := fun vs H Q _ => ∃ (c r : Addr) (xs : List V) (ds : List (Int × Int)) (rs : List Int), vs = [.ref c, .ref r] ∧ H c = some (.lst xs) ∧ PairsAt H xs ds ∧ H r = some (.lst (rs.map V.int)) ∧ ds.length ≤ 1000 ∧ rs.length ≤ 1000 ∧
  ∀ H' p ys es, Same H H' → H p = none → H' p = some (.lst ys) → PairsAt H' ys es → es.Perm (ds ++ ds ++ sw rs) → es.Pairwise Le → Q (.ref p) H'
theorem ok_hv {f fR : Addr} {fd dR : FuncData} {k : Nat} (F : Fun K "_law_halves" "_law_halves" sHv f fd) (GR : FnOk P w K mg base CX0 (k + 1) fR dR ["one", "other"] spRng) (gR : mg "_law_range" = some (.ref fR)) (kR : PySem.W.keepIn K (.ref fR) = true) (bR : Binds K dR ["one", "other"] [])
    (ml : mg "len" = none) (mr : mg "range" = none) (ms : mg "sorted" = none) : FnOk P w K mg base CX0 (k + 2) f fd ["cycles", "rest"] (spHv K) := by
  refine F.ok scHv (fun vs H Q E h => ?_) (fun cdv A outer s H vs Q E hr h => ?_)
  · obtain ⟨c, r, xs, ds, rs, rfl, _⟩ := h
    rfl
  · obtain ⟨c, r, xs, ds, rs, rfl, hc, pa, hrr, ld, lr, q⟩ := h
    refine ⟨_, pss_cons (ps_set (i := 2) scHv.nd rfl (.inl rfl) (pe_op op_cat (pv 0) (pv 0)))
      (pss_cons (ps_for PassesOwn.never rfl (pi_range1 rfl mr (pa_cons (pe_op op_sub (pe_callB call_len_seq (by rfl) ml PySem.boot_len (pa_cons (pv 1) pa_nil)) pe_int) pa_nil)) (pg_name (i := 3) scHv.nd rfl (.inl rfl))
        (pss_one (ps_expr (pe_bm PySem.F.plainAttrs_list PySem.F.slot_list_append PySem.F.type_list_append mt_append (pv 2) (pa_cons (pe_call GR hr (by rfl) gR kR bR .nil pass0 (pa_cons (pe_ix ix_list (pv 1) (pv 3) (fun _ _ => rfl)) (pa_cons (pe_ix ix_list (pv 1) (pe_op op_add (pv 3) pe_int) (fun _ _ => rfl)) pa_nil))) pa_nil)))))
      (pss_one (ps_ret (pe_callB cr_sortedPO (by rfl) ms (by decide +kernel) (pa_cons (pv 2) pa_nil))))), ?_⟩
    have hm : (rs.map V.int).length = rs.length := List.length_map _
    have lx := pa.length
    refine ⟨.ref c, rfl, .ref c, rfl, c, c, _, _, rfl, rfl, hc, hc, Nat.le_trans (show xs.length + xs.length ≤ 22000 by omega) (by decide), fun D nD => ?_⟩
    have sD := same_new (o := .lst (xs ++ xs)) nD
    refine ⟨.ref r, rfl, r, _, rfl, .inl (SqL.of (sD _ _ hrr)), _, 1, rfl, rfl, _, rfl, by rw [hm]; omega, by rw [hm]; omega, for_range (lo := 0) (n := (((rs.map V.int).length : Int) - 1).toNat) (fun i σ H' => Same H H' ∧ ∃ (ys : List V) (r3 : Option V), H' D = some (.lst ys) ∧ PairsAt H' ys (ds ++ ds ++ (sw rs).take i) ∧ σ = [some (.ref c), some (.ref r), some (.ref D), r3]) ⟨sD, _, none, upd_same, ?_, rfl⟩ ?_ ?_⟩
    · rw [List.take_zero, List.append_nil]
      exact (pa.same sD).append (pa.same sD)
    · rintro i σ H' hi ⟨sm, ys, r3, eD, py, rfl⟩
      rw [hm] at hi
      obtain ⟨x, e0⟩ : ∃ x, rs[i]? = some x := ⟨_, List.getElem?_eq_getElem (by omega)⟩
      obtain ⟨y, e1⟩ : ∃ x, rs[i + 1]? = some x := ⟨_, List.getElem?_eq_getElem (by omega)⟩
      have er := sm _ _ hrr
      have ly := py.length
      refine ⟨.ref D, rfl, .inl ⟨rfl, _, SqL.of eD⟩, .ref r, rfl, .int (0 + (i : Int)), rfl, r, _, _, _, rfl, rfl, SqL.of er, at_of (j := i) (by omega) (at_int e0), .ref r, rfl, .int (0 + (i : Int)), rfl, _, 1, rfl, rfl, r, _, _, _, rfl, rfl, SqL.of er, at_of (j := i + 1) (by omega) (at_int e1), x, y, rfl, fun T nT => ?_⟩
      have sT := same_new (o := .tup [.int (rg x y).1, .int (rg x y).2]) nT
      refine ⟨D, ys, _, rfl, rfl, sT _ _ eD, ?_, same_again nD (sm.trans sT), ys ++ [.ref T], _, upd_same, ?_, rfl⟩
      · rw [ly]
        simp only [List.length_append, List.length_take, sw_len]
        exact Nat.lt_of_le_of_lt (show _ ≤ 4000 by omega) (by decide)
      · rw [sw_take rs i x y e0 e1, ← List.append_assoc]
        refine pairs_but (E := D) (fun b o nb e => by rw [upd_ne nb]; exact e) (sT _ _ eD) ((py.same sT).append ⟨⟨T, rfl, upd_same⟩, trivial⟩)
    · rintro σ H' ⟨sm, ys, r3, eD, py, rfl⟩
      rw [List.take_of_length_le (by rw [sw_len, hm]; omega)] at py
      refine ⟨.ref D, rfl, D, ys, kOf H', rfl, SqL.of eD, (pairs_key py).2, fun zs p g1 g2 np => ?_⟩
      obtain ⟨es, pe, perm, srt⟩ := sorted_out py g1 g2
      have sp := same_new (o := .lst zs) np
      exact q _ p zs es (sm.trans sp) (sm.free np) upd_same (pe.same sp) perm srt
end
end WP

/-! the half-cycles of two loads are the same exactly if their changes are -/
namespace RE
open KM PM RM RN RC
/-- of a load: its half-cycles, sorted -/
structure Hc (ns : List Int) (es : List (Int × Int)) : Prop where
  ex : ∃ cs ds rs, Run (tp ns) cs rs ∧ NF rs ∧ ds.Perm cs ∧ es.Perm (ds ++ ds ++ sw rs)
  srt : es.Pairwise Le
theorem Hc.chg {ns : List Int} {es : List (Int × Int)} (h : Hc ns es) {lo hi : Int} (h0 : lo < hi) : chg ns lo hi = nh lo hi es := by
  obtain ⟨cs, ds, rs, run, nf, p1, p2⟩ := h.ex
  rw [chg_count h0 run nf, nh_perm p2, nh_app, nh_app, nh_perm p1]
  omega
/-- every half-cycle lies within the readings -/
def InR (u v : Int) (r : Int × Int) : Prop := u ≤ r.1 ∧ r.1 < r.2 ∧ r.2 ≤ v
theorem rg_in {u v a b : Int} (ha : u ≤ a ∧ a ≤ v) (hb : u ≤ b ∧ b ≤ v) (ne : a ≠ b) : InR u v (rg a b) := by
  rcases (show a < b ∨ b < a by omega) with h | h
  · rw [rg_up h]; exact ⟨ha.1, h, hb.2⟩
  · rw [rg_down h]; exact ⟨hb.1, h, ha.2⟩
theorem step_in {u v : Int} {p q : List Int} {c : Int × Int} (h : Step p c q) : ZZ p → (∀ x ∈ p, u ≤ x ∧ x ≤ v) → InR u v c ∧ ∀ x ∈ q, u ≤ x ∧ x ≤ v := by
  induction h with
  | @here a b c d post t =>
    intro z hb
    have z1 := z.1
    refine ⟨rg_in (hb b (by simp)) (hb c (by simp)) (by omega), fun x hx => ?_⟩
    rcases List.mem_cons.mp hx with e | hx
    · exact hb x (by simp [e])
    · rcases List.mem_cons.mp hx with e | hx
      · exact hb x (by simp [e])
      · exact hb x (by simp [hx])
  | @there x p q cy s ih =>
    intro z hb
    obtain ⟨h1, h2⟩ := ih z.tail fun y hy => hb y (List.mem_cons_of_mem _ hy)
    refine ⟨h1, fun y hy => ?_⟩
    rcases List.mem_cons.mp hy with e | hy
    · exact hb y (by simp [e])
    · exact h2 y hy
theorem run_in {u v : Int} {p q : List Int} {cs : List (Int × Int)} (h : Run p cs q) : ZZ p → (∀ x ∈ p, u ≤ x ∧ x ≤ v) → (∀ c ∈ cs, InR u v c) ∧ ∀ x ∈ q, u ≤ x ∧ x ≤ v := by
  induction h with
  | nil p => exact fun _ hb => ⟨fun _ z => (List.not_mem_nil z).elim, hb⟩
  | cons s _ ih =>
    intro z hb
    obtain ⟨h1, h2⟩ := step_in s z hb
    obtain ⟨h3, h4⟩ := ih (ZZ.step s z) h2
    refine ⟨fun c hc => ?_, h4⟩
    rcases List.mem_cons.mp hc with e | hc
    · rw [e]; exact h1
    · exact h3 c hc
theorem sw_in {u v : Int} : ∀ {ps : List Int}, ZZ ps → (∀ x ∈ ps, u ≤ x ∧ x ≤ v) → ∀ r ∈ sw ps, InR u v r
  | [], _, _, r, h => by simp [sw] at h
  | [_], _, _, r, h => by simp [sw] at h
  | x :: y :: l, z, hb, r, h => by
    rcases List.mem_cons.mp (show r ∈ rg x y :: sw (y :: l) from h) with e | h
    · rw [e]; exact rg_in (hb x (by simp)) (hb y (by simp)) (zz_cons z)
    · exact sw_in z.tail (fun w hw => hb w (List.mem_cons_of_mem _ hw)) r h
theorem Hc.inr {u v : Int} {ns : List Int} {es : List (Int × Int)} (h : Hc ns es) (hb : ∀ x ∈ ns, u ≤ x ∧ x ≤ v) : ∀ r ∈ es, InR u v r := by
  obtain ⟨cs, ds, rs, run, nf, p1, p2⟩ := h.ex
  obtain ⟨h1, h2⟩ := run_in run (tp_zz ns) fun x hx => hb x (tp_mem hx)
  intro r hr
  rcases List.mem_append.mp (p2.mem_iff.mp hr) with z | z
  · rcases List.mem_append.mp z with z | z
    · exact h1 r (p1.mem_iff.mp z)
    · exact h1 r (p1.mem_iff.mp z)
  · exact sw_in (run.zz (tp_zz ns)) h2 r z
/-- two loads within u..v -/
theorem same_iff {u v : Int} {ns ms : List Int} {es fs : List (Int × Int)} (h : Hc ns es) (g : Hc ms fs) (hb : ∀ x ∈ ns, u ≤ x ∧ x ≤ v) (gb : ∀ x ∈ ms, u ≤ x ∧ x ≤ v) :
    es = fs ↔ ∀ lo hi : Int, u - 1 ≤ lo → lo < hi → hi ≤ v + 1 → KM.chg ns lo hi = KM.chg ms lo hi := by
  constructor
  · intro e lo hi _ h0 _
    rw [h.chg h0, g.chg h0, e]
  · intro e
    refine sorted_same (List.perm_iff_count.mpr fun r => ?_) h.srt g.srt
    obtain ⟨lo, hi⟩ := r
    by_cases z : u ≤ lo ∧ lo < hi ∧ hi ≤ v
    · have j1 := just (lo := lo) (hi := hi) es
      have j2 := just (lo := lo) (hi := hi) fs
      have k : ∀ a b : Int, u - 1 ≤ a → a < b → b ≤ v + 1 → nh a b es = nh a b fs := fun a b h1 h2 h3 => by rw [← h.chg h2, ← g.chg h2, e a b h1 h2 h3]
      have k1 := k lo hi (by omega) (by omega) (by omega)
      have k2 := k (lo - 1) hi (by omega) (by omega) (by omega)
      have k3 := k lo (hi + 1) (by omega) (by omega) (by omega)
      have k4 := k (lo - 1) (hi + 1) (by omega) (by omega) (by omega)
      omega
    · rw [List.count_eq_zero.mpr fun m => z (show u ≤ lo ∧ lo < hi ∧ hi ≤ v from h.inr hb (lo, hi) m), List.count_eq_zero.mpr fun m => z (show u ≤ lo ∧ lo < hi ∧ hi ≤ v from g.inr gb (lo, hi) m)]
end RE

/-! loads turned round, mapped, repeated, thinned: mathematics -/
namespace K9
open KM PM RM RN RC RE
/-! ### turning points of a load turned round -/
theorem tq_same : ∀ (pre : List Int) (p q x : Int) (post : List Int), tq p q (pre ++ x :: x :: post) = tq p q (pre ++ x :: post)
  | [], p, q, x, post => by
    show tq p q (x :: x :: post) = tq p q (x :: post)
    simp only [tq]
    by_cases e : q = x
    · subst e
      simp only [if_true]
    · rw [if_neg e, if_neg e]
      simp only [if_true]
  | y :: pre, p, q, x, post => by
    show tq p q (y :: (pre ++ x :: x :: post)) = tq p q (y :: (pre ++ x :: post))
    simp only [tq, tq_same pre]
theorem tq_btw0 {p b a r : Int} (post : List Int) (h : Btw a b r) : tq p b (a :: r :: post) = tq p b (r :: post) := by
  have h1 : ¬ b = a := by omega
  have h2 : ¬ b = r := by omega
  have h3 : ¬ a = r := by omega
  simp only [tq]
  rw [if_neg h1, if_neg h2]
  by_cases c : Btw b p a
  · rw [if_pos c, if_neg h3, if_pos (show Btw a p r by omega), if_pos (show Btw b p r by omega)]
  · rw [if_neg c, if_neg (show ¬ Btw b p r by omega)]
    rw [if_neg h3, if_pos h]
theorem tq_btw : ∀ (pre : List Int) (p q b a r : Int) (post : List Int), Btw a b r → tq p q (pre ++ b :: a :: r :: post) = tq p q (pre ++ b :: r :: post)
  | [], p, q, b, a, r, post, h => by
    show tq p q (b :: a :: r :: post) = tq p q (b :: r :: post)
    have k : ∀ s, tq s b (a :: r :: post) = tq s b (r :: post) := fun s => tq_btw0 post h
    rw [tq, k, k]
    rw [tq.eq_2 p q b (r :: post)]
    by_cases e : q = b
    · rw [if_pos e, if_pos e]
      subst e
      exact k p
    · rw [if_neg e, if_neg e]
  | y :: pre, p, q, b, a, r, post, h => by
    show tq p q (y :: (pre ++ b :: a :: r :: post)) = tq p q (y :: (pre ++ b :: r :: post))
    simp only [tq, tq_btw pre _ _ b a r post h]
theorem ts_same : ∀ (pre : List Int) (q x : Int) (post : List Int), ts q (pre ++ x :: x :: post) = ts q (pre ++ x :: post)
  | [], q, x, post => by
    show ts q (x :: x :: post) = ts q (x :: post)
    simp only [ts]
    by_cases e : q = x
    · subst e
      simp only [if_true]
    · rw [if_neg e, if_neg e]
      simp only [tq, if_true]
  | y :: pre, q, x, post => by
    show ts q (y :: (pre ++ x :: x :: post)) = ts q (y :: (pre ++ x :: post))
    simp only [ts, ts_same pre, tq_same pre]
theorem ts_btw0 {b a r : Int} (post : List Int) (h : Btw a b r) : ts b (a :: r :: post) = ts b (r :: post) := by
  simp only [ts]
  rw [if_neg (show ¬ b = a by omega), if_neg (show ¬ b = r by omega)]
  simp only [tq]
  rw [if_neg (show ¬ a = r by omega), if_pos h]
theorem ts_btw : ∀ (pre : List Int) (q b a r : Int) (post : List Int), Btw a b r → ts q (pre ++ b :: a :: r :: post) = ts q (pre ++ b :: r :: post)
  | [], q, b, a, r, post, h => by
    show ts q (b :: a :: r :: post) = ts q (b :: r :: post)
    rw [ts, tq_btw0 post h]
    rw [ts.eq_2 q b (r :: post)]
    by_cases e : q = b
    · rw [if_pos e, if_pos e]
      subst e
      exact ts_btw0 post h
    · rw [if_neg e, if_neg e]
  | y :: pre, q, b, a, r, post, h => by
    show ts q (y :: (pre ++ b :: a :: r :: post)) = ts q (y :: (pre ++ b :: r :: post))
    simp only [ts, ts_btw pre _ b a r post h, tq_btw pre _ _ b a r post h]
theorem tp_same (pre : List Int) (x : Int) (post : List Int) : tp (pre ++ x :: x :: post) = tp (pre ++ x :: post) := by
  cases pre with
  | nil =>
    show ts x (x :: post) = ts x post
    simp only [ts, if_true]
  | cons y pre => exact ts_same pre y x post
theorem tp_btw (pre : List Int) {b a r : Int} (post : List Int) (h : Btw a b r) : tp (pre ++ b :: a :: r :: post) = tp (pre ++ b :: r :: post) := by
  cases pre with
  | nil => exact ts_btw0 post h
  | cons y pre => exact ts_btw pre y b a r post h
/-- a reading left out that is no turning point -/
inductive Red : List Int → List Int → Prop
  | nil (l : List Int) : Red l l
  | same (pre : List Int) (x : Int) (post : List Int) {m : List Int} : Red (pre ++ x :: post) m → Red (pre ++ x :: x :: post) m
  | btw (pre : List Int) {b a r : Int} (post : List Int) {m : List Int} : Btw a b r → Red (pre ++ b :: r :: post) m → Red (pre ++ b :: a :: r :: post) m
theorem Red.tp {l m : List Int} (h : Red l m) : tp l = tp m := by
  induction h with
  | nil l => rfl
  | same pre x post _ ih => rw [tp_same, ih]
  | btw pre post hb _ ih => rw [tp_btw pre post hb, ih]
theorem Red.cons {l m : List Int} (h : Red l m) (y : Int) : Red (y :: l) (y :: m) := by
  induction h with
  | nil l => exact .nil _
  | same pre x post _ ih => exact .same (y :: pre) x post ih
  | btw pre post hb _ ih => exact .btw (y :: pre) post hb ih
theorem Red.trans {l m n : List Int} (h : Red l m) (g : Red m n) : Red l n := by
  induction h with
  | nil l => exact g
  | same pre x post _ ih => exact .same pre x post (ih g)
  | btw pre post hb _ ih => exact .btw pre post hb (ih g)
theorem Red.rev {l m : List Int} (h : Red l m) : Red l.reverse m.reverse := by
  induction h with
  | nil l => exact .nil _
  | same pre x post _ ih =>
    have e1 : (pre ++ x :: x :: post).reverse = post.reverse ++ x :: x :: pre.reverse := by simp
    have e2 : (pre ++ x :: post).reverse = post.reverse ++ x :: pre.reverse := by simp
    rw [e1]
    rw [e2] at ih
    exact .same _ x _ ih
  | @btw pre b a r post m hb _ ih =>
    have e1 : (pre ++ b :: a :: r :: post).reverse = post.reverse ++ r :: a :: b :: pre.reverse := by simp
    have e2 : (pre ++ b :: r :: post).reverse = post.reverse ++ r :: b :: pre.reverse := by simp
    rw [e1]
    rw [e2] at ih
    exact .btw _ _ (by omega) ih
theorem red_tq : ∀ (l : List Int) (b a : Int), Red (b :: a :: l) (b :: tq b a l)
  | [], b, a => .nil _
  | r :: l, b, a => by
    simp only [tq]
    by_cases e : a = r
    · rw [if_pos e]
      subst e
      exact .same [b] a l (red_tq l b a)
    · rw [if_neg e]
      by_cases c : Btw a b r
      · rw [if_pos c]
        exact .btw [] l c (red_tq l b r)
      · rw [if_neg c]
        exact (red_tq l a r).cons b
theorem red_ts : ∀ (l : List Int) (a : Int), Red (a :: l) (ts a l)
  | [], a => .nil _
  | r :: l, a => by
    simp only [ts]
    by_cases e : a = r
    · rw [if_pos e]
      subst e
      exact .same [] a l (red_ts l a)
    · rw [if_neg e]
      exact red_tq l a r
theorem red_tp (ns : List Int) : Red ns (tp ns) := by
  cases ns with
  | nil => exact .nil _
  | cons a l => exact red_ts l a
theorem zz_snoc : ∀ {l : List Int} {a b c : Int}, ZZ (l ++ [a, b]) → ((a < b ∧ c < b) ∨ (b < a ∧ b < c)) → ZZ (l ++ [a, b, c])
  | [], a, b, c, _, h => ⟨h, by show b ≠ c; omega⟩
  | [x], a, b, c, z, h => ⟨z.1, h, by show b ≠ c; omega⟩
  | [x, y], a, b, c, z, h => ⟨z.1, z.2.1, h, by show b ≠ c; omega⟩
  | x :: y :: w :: l, a, b, c, z, h => ⟨z.1, zz_snoc (l := y :: w :: l) z.2 h⟩
theorem zz_rev : ∀ {l : List Int}, ZZ l → ZZ l.reverse
  | [], _ => trivial
  | [x], _ => trivial
  | [x, y], z => fun e => z e.symm
  | x :: y :: w :: l, z => by
    have ih := zz_rev (l := y :: w :: l) z.2
    have e : (x :: y :: w :: l).reverse = l.reverse ++ [w, y, x] := by simp
    have e2 : (y :: w :: l).reverse = l.reverse ++ [w, y] := by simp
    rw [e]
    rw [e2] at ih
    exact zz_snoc ih (by have := z.1; omega)
theorem tp_rev (ns : List Int) : tp ns.reverse = (tp ns).reverse := by
  rw [(red_tp ns).rev.tp, zz_tp (zz_rev (tp_zz ns))]
theorem rg_comm (a b : Int) : rg a b = rg b a := by unfold rg; rw [Prod.mk.injEq]; constructor <;> split <;> split <;> omega
theorem taken_rev {a b c d : Int} (h : Taken a b c d) : Taken d c b a := by
  unfold Taken at *
  rw [rg_comm d c, rg_comm c b, rg_comm b a]
  exact ⟨h.2, h.1⟩
theorem step_rev {p q : List Int} {c : Int × Int} (h : Step p c q) : Step p.reverse c q.reverse := by
  induction h with
  | @here a b c d post t =>
    have e1 : (a :: b :: c :: d :: post).reverse = post.reverse ++ [d, c, b, a] := by simp
    have e2 : (a :: d :: post).reverse = post.reverse ++ [d, a] := by simp
    rw [e1, e2, rg_comm b c]
    exact (Step.here (post := []) (taken_rev t)).prefix _
  | @there x p q cy s ih =>
    rw [List.reverse_cons, List.reverse_cons]
    exact ih.suffix [x]
theorem run_rev {p q : List Int} {cs : List (Int × Int)} (h : Run p cs q) : Run p.reverse cs q.reverse := by
  induction h with
  | nil p => exact .nil _
  | cons s _ ih => exact .cons (step_rev s) ih
theorem nf_rev {p : List Int} (h : NF p) : NF p.reverse := fun c q s => by
  have := step_rev s
  rw [List.reverse_reverse] at this
  exact h _ _ this
/-- one count, its cycles sorted -/
structure Cn (ns : List Int) (ds : List (Int × Int)) (rs : List Int) : Prop where
  ex : ∃ cs, Run (tp ns) cs rs ∧ ds.Perm cs
  nf : NF rs
  srt : ds.Pairwise Le
theorem cn_one {ns ms : List Int} {ds es : List (Int × Int)} {rs ss : List Int} (e : tp ns = tp ms) (h : Cn ns ds rs) (g : Cn ms es ss) : ds = es ∧ rs = ss := by
  obtain ⟨cs, r1, p1⟩ := h.ex
  obtain ⟨cs2, r2, p2⟩ := g.ex
  rw [e] at r1
  obtain ⟨e1, e2⟩ := one_count (tp_zz ms) r1 h.nf r2 g.nf
  exact ⟨sorted_same (p1.trans (e2.trans p2.symm)) h.srt g.srt, e1⟩
theorem cn_rev {ns : List Int} {ds es : List (Int × Int)} {rs ss : List Int} (h : Cn ns ds rs) (g : Cn ns.reverse es ss) : es = ds ∧ ss = rs.reverse := by
  obtain ⟨cs, r1, p1⟩ := h.ex
  obtain ⟨cs2, r2, p2⟩ := g.ex
  have r3 := run_rev r1
  rw [← tp_rev] at r3
  obtain ⟨e1, e2⟩ := one_count (tp_zz _) r2 g.nf r3 (nf_rev h.nf)
  exact ⟨sorted_same (p2.trans (e2.trans p1.symm)) g.srt h.srt, e1⟩
/-! ### a load moved, stretched, negated -/
def Str (f : Int → Int) : Prop := (∀ a b, a < b ↔ f a < f b) ∨ (∀ a b, a < b ↔ f b < f a)
theorem str_eq {f : Int → Int} (h : Str f) (a b : Int) : a = b ↔ f a = f b := by
  rcases h with h | h
  · have h1 := h a b
    have h2 := h b a
    omega
  · have h1 := h a b
    have h2 := h b a
    omega
theorem str_btw {f : Int → Int} (h : Str f) (r b a : Int) : Btw r b a ↔ Btw (f r) (f b) (f a) := by
  unfold Btw
  rcases h with h | h
  · rw [h b r, h r a, h a r, h r b]
  · rw [h b r, h r a, h a r, h r b]
    omega
theorem tq_map {f : Int → Int} (h : Str f) : ∀ (l : List Int) (b a : Int), tq (f b) (f a) (l.map f) = (tq b a l).map f
  | [], _, _ => rfl
  | r :: l, b, a => by
    simp only [tq, List.map_cons]
    by_cases e : a = r
    · rw [if_pos e, if_pos ((str_eq h a r).mp e)]
      exact tq_map h l b a
    · rw [if_neg e, if_neg (fun z => e ((str_eq h a r).mpr z))]
      by_cases c : Btw a b r
      · rw [if_pos c, if_pos ((str_btw h a b r).mp c)]
        exact tq_map h l b r
      · rw [if_neg c, if_neg (fun z => c ((str_btw h a b r).mpr z)), List.map_cons, tq_map h l a r]
theorem ts_map {f : Int → Int} (h : Str f) : ∀ (l : List Int) (a : Int), ts (f a) (l.map f) = (ts a l).map f
  | [], _ => rfl
  | r :: l, a => by
    simp only [ts, List.map_cons]
    by_cases e : a = r
    · rw [if_pos e, if_pos ((str_eq h a r).mp e)]
      exact ts_map h l a
    · rw [if_neg e, if_neg (fun z => e ((str_eq h a r).mpr z)), List.map_cons, tq_map h l a r]
theorem tp_map {f : Int → Int} (h : Str f) (ns : List Int) : tp (ns.map f) = (tp ns).map f := by
  cases ns with
  | nil => rfl
  | cons a l => exact ts_map h l a
def mp (f : Int → Int) (r : Int × Int) : Int × Int := rg (f r.1) (f r.2)
theorem rg_map {f : Int → Int} (h : Str f) (a b : Int) : rg (f a) (f b) = mp f (rg a b) := by
  rcases Int.lt_trichotomy a b with z | z | z
  · unfold mp; rw [rg_up z]
  · subst z
    unfold mp rg
    simp
  · unfold mp; rw [rg_down z, rg_comm]
theorem taken_map {f : Int → Int} (h : Str f) {a b c d : Int} (t : Taken a b c d) : Taken (f a) (f b) (f c) (f d) := by
  unfold Taken at *
  rw [rg_map h a b, rg_map h b c, rg_map h c d]
  have key : ∀ u v x y : Int, u ≤ v → x ≤ y → u ≤ x → y ≤ v → ((mp f (u, v)).1 ≤ (mp f (x, y)).1 ∧ (mp f (x, y)).2 ≤ (mp f (u, v)).2) := by
    intro u v x y h1 h2 h3 h4
    have m : ∀ p q, p ≤ q → (f p ≤ f q ∨ f q ≤ f p) := fun p q _ => Int.le_total _ _
    unfold mp rg
    rcases h with h | h
    · have a1 := h v u; have a2 := h y x; have a3 := h x u; have a4 := h v y
      dsimp only
      repeat' split
      all_goals omega
    · have a1 := h v u; have a2 := h y x; have a3 := h x u; have a4 := h v y
      have a5 := h u v; have a6 := h x y; have a7 := h u x; have a8 := h y v
      dsimp only
      repeat' split
      all_goals omega
  have le : ∀ p q : Int, (rg p q).1 ≤ (rg p q).2 := by
    intro p q
    unfold rg
    dsimp only
    split <;> split <;> omega
  exact ⟨key _ _ _ _ (le a b) (le b c) t.1.1 t.1.2, key _ _ _ _ (le c d) (le b c) t.2.1 t.2.2⟩
theorem taken_back {f : Int → Int} (h : Str f) {a b c d : Int} (t : Taken (f a) (f b) (f c) (f d)) : Taken a b c d := by
  have key : ∀ p q x y : Int, (rg (f p) (f q)).1 ≤ (rg (f x) (f y)).1 ∧ (rg (f x) (f y)).2 ≤ (rg (f p) (f q)).2 → (rg p q).1 ≤ (rg x y).1 ∧ (rg x y).2 ≤ (rg p q).2 := by
    intro p q x y
    unfold rg
    rcases h with h | h
    · have a1 := h p q; have a2 := h q p; have a3 := h x y; have a4 := h y x
      have b1 := h p x; have b2 := h x p; have b3 := h p y; have b4 := h y p
      have c1 := h q x; have c2 := h x q; have c3 := h q y; have c4 := h y q
      dsimp only
      repeat' split
      all_goals omega
    · have a1 := h p q; have a2 := h q p; have a3 := h x y; have a4 := h y x
      have b1 := h p x; have b2 := h x p; have b3 := h p y; have b4 := h y p
      have c1 := h q x; have c2 := h x q; have c3 := h q y; have c4 := h y q
      dsimp only
      repeat' split
      all_goals omega
  exact ⟨key _ _ _ _ t.1, key _ _ _ _ t.2⟩
theorem step_map {f : Int → Int} (h : Str f) {p q : List Int} {c : Int × Int} (s : Step p c q) : Step (p.map f) (mp f c) (q.map f) := by
  induction s with
  | @here a b c d post t =>
    rw [← rg_map h]
    exact .here (taken_map h t)
  | there _ ih => exact .there ih
theorem run_map {f : Int → Int} (h : Str f) {p q : List Int} {cs : List (Int × Int)} (r : Run p cs q) : Run (p.map f) (cs.map (mp f)) (q.map f) := by
  induction r with
  | nil p => exact .nil _
  | cons s _ ih => exact .cons (step_map h s) ih
theorem step_back {f : Int → Int} (h : Str f) {p' q : List Int} {c : Int × Int} (s : Step p' c q) : ∀ {p : List Int}, p' = p.map f → ∃ c' q', Step p c' q' := by
  induction s with
  | @here a b c d post t =>
    intro p e
    match p, e with
    | a' :: b' :: c' :: d' :: post', e =>
      simp only [List.map_cons, List.cons.injEq] at e
      obtain ⟨e1, e2, e3, e4, _⟩ := e
      subst e1 e2 e3 e4
      exact ⟨_, _, .here (taken_back h t)⟩
    | [], e => simp at e
    | [_], e => simp at e
    | [_, _], e => simp at e
    | [_, _, _], e => simp at e
  | @there x p1 q1 cy s ih =>
    intro p e
    match p, e with
    | x' :: p', e =>
      rw [List.map_cons] at e
      obtain ⟨c', q', s'⟩ := ih (List.cons.inj e).2
      exact ⟨c', _, .there s'⟩
    | [], e => simp at e
theorem nf_map {f : Int → Int} (h : Str f) {p : List Int} (n : NF p) : NF (p.map f) := fun c q s => by
  obtain ⟨c', q', s'⟩ := step_back h s rfl
  exact n _ _ s'
theorem cn_map {f : Int → Int} (h : Str f) {ns : List Int} {ds es fs : List (Int × Int)} {rs ss : List Int} (g : Cn ns ds rs) (k : Cn (ns.map f) es ss) (p : fs.Perm (ds.map (mp f))) (srt : fs.Pairwise Le) : es = fs ∧ ss = rs.map f := by
  obtain ⟨cs, r1, p1⟩ := g.ex
  obtain ⟨cs2, r2, p2⟩ := k.ex
  have r3 := run_map h r1
  rw [← tp_map h] at r3
  obtain ⟨e1, e2⟩ := one_count (tp_zz _) r2 k.nf r3 (nf_map h g.nf)
  exact ⟨sorted_same (p2.trans (e2.trans ((p1.symm.map _).trans p.symm))) k.srt srt, e1⟩
theorem str_aff {s t : Int} (h : s ≠ 0) : Str fun x => x * s + t := by
  rcases (show 0 < s ∨ s < 0 by omega) with z | z
  · refine .inl fun a b => ?_
    have := Int.mul_lt_mul_right (a := s) (b := a) (c := b) z
    dsimp only
    omega
  · refine .inr fun a b => ?_
    have := Int.mul_lt_mul_right (a := -s) (b := a) (c := b) (by omega)
    rw [Int.mul_neg, Int.mul_neg] at this
    dsimp only
    omega
/-! ### readings repeated -/
theorem tp_rep : ∀ (m : Nat) (pre : List Int) (x : Int), tp (pre ++ List.replicate (m + 1) x) = tp (pre ++ [x])
  | 0, pre, x => rfl
  | m + 1, pre, x => by
    have := tp_same pre x (List.replicate m x)
    rw [show pre ++ List.replicate (m + 1 + 1) x = pre ++ x :: x :: List.replicate m x from rfl, this]
    exact tp_rep m pre x
theorem red_app {l m : List Int} (n : List Int) (h : Red l m) : Red (l ++ n) (m ++ n) := by
  induction h with
  | nil l => exact .nil _
  | same pre x post _ ih =>
    rw [List.append_assoc] at ih ⊢
    exact .same pre x _ ih
  | btw pre post hb _ ih =>
    rw [List.append_assoc] at ih ⊢
    exact .btw pre _ hb ih
/-- what the beginning is, is of no matter if its turning points are the same -/
theorem tp_pre {l m : List Int} (h : tp l = tp m) (n : List Int) : tp (l ++ n) = tp (m ++ n) := by
  rw [(red_app n (red_tp l)).tp, (red_app n (red_tp m)).tp, h]
theorem tp_twice {l m : List Int} (h : tp l = tp m) (k : Nat) (x : Int) : tp (l ++ List.replicate (k + 1) x) = tp (m ++ [x]) := by
  rw [tp_rep, tp_pre h]
/-! ### an upper point lowered -/
theorem cl_sub {lo hi : Int} {l m : List Int} (h : l.Sublist m) (o : Option Bool) : cl lo hi o l ≤ cl lo hi o m := by
  unfold cl
  have h2 : (lets lo hi l).Sublist (lets lo hi m) := h.filterMap _
  cases o with
  | none => exact cnt_mono h2
  | some b => exact cf_mono h2 b
/-- v lies between x and n -/
def Mid (x v n : Int) : Prop := (x ≤ v ∧ v ≤ n) ∨ (n ≤ v ∧ v ≤ x)
theorem mid_let {lo hi x v n : Int} {b : Bool} (h0 : lo < hi) (h : Mid x v n) (e1 : lett lo hi v = some b) (e2 : lett lo hi x ≠ some b) : lett lo hi n = some b := by
  unfold Mid at h
  rcases lett3 lo hi v h0 with ⟨z, e⟩ | ⟨z, e⟩ | ⟨_, _, e⟩ <;> rw [e] at e1 <;> cases e1
  · rcases lett3 lo hi x h0 with ⟨y, e⟩ | ⟨y, e⟩ | ⟨y, y2, e⟩
    · exact absurd e e2
    · exact lett_lo (by omega)
    · exact lett_lo (by omega)
  · rcases lett3 lo hi x h0 with ⟨y, e⟩ | ⟨y, e⟩ | ⟨y, y2, e⟩
    · exact lett_hi h0 (by omega)
    · exact absurd e e2
    · exact lett_hi h0 (by omega)
theorem cl_put {lo hi x v : Int} (h0 : lo < hi) (r : List Int) (hr : ∀ c, r.head? = some c → Mid x v c) (o : Option Bool) (ho : ∀ b, lett lo hi v = some b → lett lo hi x ≠ some b → o = none ∨ o = some b) : cl lo hi o (v :: r) ≤ cl lo hi o (x :: r) := by
  by_cases e : lett lo hi v = lett lo hi x
  · rw [cl_cons, cl_cons, e]
    exact Nat.le_refl _
  · cases ev : lett lo hi v with
    | none =>
      rw [cl_cons, ev]
      exact cl_sub (List.sublist_cons_self _ _) o
    | some b =>
      have ex : lett lo hi x ≠ some b := fun z => e (ev.trans z.symm)
      have d0 : d2 o b = 0 := by
        rcases ho b ev ex with z | z
        · rw [z]; rfl
        · rw [z]; simp [d2]
      rw [cl_cons, ev]
      show d2 o b + cl lo hi (some b) r ≤ _
      rw [d0, Nat.zero_add]
      cases r with
      | nil => rw [cl_nil]; exact Nat.zero_le _
      | cons c r =>
        have ec := mid_let h0 (hr c rfl) ev ex
        have k : cl lo hi o (c :: r) ≤ cl lo hi o (x :: c :: r) := cl_sub (List.sublist_cons_self _ _) o
        refine Nat.le_trans ?_ k
        rw [cl_cons, cl_cons, ec]
        show d2 (some b) b + _ ≤ d2 o b + _
        rw [d0]
        simp [d2]
theorem cl_put_at {lo hi x v : Int} (h0 : lo < hi) (r : List Int) (hr : ∀ c, r.head? = some c → Mid x v c) : ∀ (pre : List Int) (o : Option Bool), (∀ a, pre.getLast? = some a → Mid x v a) → (pre = [] → ∀ b, lett lo hi v = some b → lett lo hi x ≠ some b → o = none ∨ o = some b) → cl lo hi o (pre ++ v :: r) ≤ cl lo hi o (pre ++ x :: r)
  | [], o, _, ho => cl_put h0 r hr o (ho rfl)
  | p :: pre, o, hp, _ => by
    have key : ∀ o', (pre = [] → ∀ b, lett lo hi v = some b → lett lo hi x ≠ some b → o' = none ∨ o' = some b) → cl lo hi o' (pre ++ v :: r) ≤ cl lo hi o' (pre ++ x :: r) := fun o' h' =>
      cl_put_at h0 r hr pre o' (fun a ha => hp a (by
        cases pre with
        | nil => cases ha
        | cons q pre => rw [List.getLast?_cons_cons]; exact ha)) h'
    show cl lo hi o (p :: (pre ++ v :: r)) ≤ cl lo hi o (p :: (pre ++ x :: r))
    rw [cl_cons, cl_cons]
    cases e : lett lo hi p with
    | none =>
      refine key o fun e0 b h1 h2 => ?_
      subst e0
      have := mid_let h0 (hp p rfl) h1 h2
      rw [e] at this
      cases this
    | some b' =>
      refine Nat.add_le_add_left (key _ fun e0 b h1 h2 => .inr ?_) _
      subst e0
      have := mid_let h0 (hp p rfl) h1 h2
      rw [e] at this
      exact this
theorem chg_put_at {lo hi x v : Int} (h0 : lo < hi) {pre r : List Int} (hp : ∀ a, pre.getLast? = some a → Mid x v a) (hr : ∀ c, r.head? = some c → Mid x v c) : chg (pre ++ v :: r) lo hi ≤ chg (pre ++ x :: r) lo hi :=
  cl_put_at h0 r hr pre none hp fun _ _ _ _ => .inl rfl
theorem chg_tp {lo hi : Int} (h0 : lo < hi) (ns : List Int) : chg (tp ns) lo hi = chg ns lo hi := cl_tp h0 ns
theorem zz_three : ∀ {ps : List Int} {j : Nat} {a x c : Int}, ZZ ps → ps[j]? = some a → ps[j + 1]? = some x → ps[j + 2]? = some c → (a < x ∧ c < x) ∨ (x < a ∧ x < c)
  | p :: q :: r :: l, 0, a, x, c, z, h1, h2, h3 => by
    have e1 : p = a := Option.some.inj h1
    have e2 : q = x := Option.some.inj h2
    have e3 : r = c := Option.some.inj h3
    subst e1 e2 e3
    have := z.1
    omega
  | p :: l, j + 1, a, x, c, z, h1, h2, h3 => zz_three (ps := l) (j := j) z.tail h1 h2 h3
  | [], _, _, _, _, _, h, _, _ => by simp at h
  | [_], 0, _, _, _, _, _, h, _ => by simp at h
  | [_, _], 0, _, _, _, _, _, _, h => by simp at h
theorem zz_two : ∀ {ps : List Int} {j : Nat} {a x : Int}, ZZ ps → ps[j]? = some a → ps[j + 1]? = some x → a ≠ x
  | p :: q :: l, 0, a, x, z, h1, h2 => by
    have e1 : p = a := Option.some.inj h1
    have e2 : q = x := Option.some.inj h2
    subst e1 e2
    exact zz_cons z
  | p :: l, j + 1, a, x, z, h1, h2 => zz_two (ps := l) (j := j) z.tail h1 h2
  | [], _, _, _, _, h, _ => by simp at h
  | [_], 0, _, _, _, _, h => by simp at h
/-- near is a neighbour of the point at j, the nearer one -/
def Near (ps : List Int) (j : Nat) (x near : Int) : Prop :=
  (∀ a, 0 < j → ps[j - 1]? = some a → (near - x).natAbs ≤ (a - x).natAbs) ∧ (∀ c, ps[j + 1]? = some c → (near - x).natAbs ≤ (c - x).natAbs) ∧ ((0 < j ∧ ps[j - 1]? = some near) ∨ ps[j + 1]? = some near)
theorem near_mid {ps : List Int} {j : Nat} {x near v : Int} (zz : ZZ ps) (hx : ps[j]? = some x) (hn : Near ps j x near) (hv : Mid x v near) : (∀ a, 0 < j → ps[j - 1]? = some a → Mid x v a) ∧ (∀ c, ps[j + 1]? = some c → Mid x v c) := by
  obtain ⟨n1, n2, n3⟩ := hn
  unfold Mid at *
  refine ⟨fun a hj ha => ?_, fun c hc => ?_⟩
  · have d := n1 a hj ha
    rcases n3 with ⟨_, e⟩ | e
    · rw [ha] at e
      cases e
      exact hv
    · obtain ⟨i, rfl⟩ : ∃ i, j = i + 1 := ⟨j - 1, by omega⟩
      have := zz_three zz ha hx e
      omega
  · have d := n2 c hc
    rcases n3 with ⟨hj, e⟩ | e
    · obtain ⟨i, rfl⟩ : ∃ i, j = i + 1 := ⟨j - 1, by omega⟩
      have := zz_three zz e hx hc
      omega
    · rw [hc] at e
      cases e
      exact hv
theorem lowered {lo hi : Int} (h0 : lo < hi) {ns : List Int} {j : Nat} {x near v : Int} (hx : (tp ns)[j]? = some x) (hn : Near (tp ns) j x near) (hv : Mid x v near) : chg ((tp ns).set j v) lo hi ≤ chg ns lo hi := by
  rw [← chg_tp h0 ns]
  generalize hp : tp ns = ps at *
  have zz : ZZ ps := hp ▸ tp_zz ns
  obtain ⟨m1, m2⟩ := near_mid zz hx hn hv
  obtain ⟨hj, ex⟩ := List.getElem?_eq_some_iff.mp hx
  have e1 : ps.set j v = ps.take j ++ v :: ps.drop (j + 1) := by rw [List.set_eq_take_append_cons_drop, if_pos hj]
  have e2 : ps.take j ++ x :: ps.drop (j + 1) = ps := by
    rw [← ex, ← List.drop_eq_getElem_cons hj, List.take_append_drop]
  rw [e1]
  refine Nat.le_trans (chg_put_at h0 (x := x) (v := v) (fun a ha => ?_) (fun c hc => ?_)) (Nat.le_of_eq (by rw [e2]))
  · rw [List.getLast?_eq_getElem?, List.length_take, Nat.min_eq_left (by omega)] at ha
    by_cases z : 0 < j
    · rw [List.getElem?_take] at ha
      rw [if_pos (by omega)] at ha
      exact m1 a z ha
    · have : j = 0 := by omega
      subst this
      simp at ha
  · rw [List.head?_drop] at hc
    exact m2 c hc
theorem sort_two {ms : List Int} {u v : Int} (p : ms.Perm [u, v]) (s : ms.Pairwise (· ≤ ·)) : ms = [(rg u v).1, (rg u v).2] := by
  have hl := p.length_eq
  match ms, hl with
  | [a, b], _ =>
    have h1 := (p.mem_iff (a := a)).mp (by simp)
    have h2 := (p.mem_iff (a := b)).mp (by simp)
    have h3 := (p.mem_iff (a := u)).mpr (by simp)
    have h4 := (p.mem_iff (a := v)).mpr (by simp)
    simp only [List.mem_cons, List.not_mem_nil, or_false] at h1 h2 h3 h4
    have h5 : a ≤ b := by simpa using s
    unfold rg
    dsimp only
    have e1 : a = if v < u then v else u := by split <;> omega
    have e2 : b = if v > u then v else u := by split <;> omega
    rw [← e1, ← e2]
end K9

/-! loads joined -/
namespace RJ
open PM RM RN RS K9
theorem tp_app : ∀ (b a : List Int), tp (a ++ b) = b.foldl push (tp a)
  | [], a => by rw [List.append_nil]; rfl
  | r :: b, a => by
    rw [List.foldl_cons, ← tp_push, ← tp_app b (a ++ [r])]
    simp
theorem tp_tpl (a b : List Int) : tp (tp a ++ b) = tp (a ++ b) := by rw [tp_app, tp_app, zz_tp (tp_zz a)]
theorem tp_tpr (a b : List Int) : tp (a ++ tp b) = tp (a ++ b) := by
  rw [← List.reverse_inj, ← tp_rev, ← tp_rev, List.reverse_append, List.reverse_append, ← tp_rev, tp_tpl]
theorem run_fold : ∀ (b : List Int) {p q : List Int} {cs : List (Int × Int)}, Run p cs q → ZZ p → Run (b.foldl push p) cs (b.foldl push q)
  | [], _, _, _, h, _ => h
  | r :: b, _, _, _, h, z => run_fold b (run_push h z r) (zz_push r z)
theorem run_l {a ra : List Int} {ca : List (Int × Int)} (h : Run (tp a) ca ra) (b : List Int) : Run (tp (a ++ b)) ca (tp (ra ++ b)) := by
  have z := h.zz (tp_zz a)
  have := run_fold b h (tp_zz a)
  rw [tp_app, tp_app, zz_tp z]
  exact this
theorem run_r {b rb : List Int} {cb : List (Int × Int)} (h : Run (tp b) cb rb) (a : List Int) : Run (tp (a ++ b)) cb (tp (a ++ rb)) := by
  have h1 := run_rev h
  rw [← tp_rev] at h1
  have h2 := run_rev (run_l h1 a.reverse)
  rw [← tp_rev, ← tp_rev] at h2
  simpa using h2
theorem joined {a b ra rb : List Int} {ca cb : List (Int × Int)} (h : Run (tp a) ca ra) (g : Run (tp b) cb rb) : Run (tp (a ++ b)) (ca ++ cb) (tp (ra ++ rb)) :=
  Run.append (run_l h b) (run_r g ra)
/-- a load with its count -/
abbrev Tri := List Int × List (Int × Int) × List Int
def lds (L : List Tri) : List Int := (L.map (·.1)).flatten
def cys (L : List Tri) : List (Int × Int) := (L.map (·.2.1)).flatten
def rss (L : List Tri) : List Int := (L.map (·.2.2)).flatten
theorem joinedN : ∀ (L : List Tri), (∀ t ∈ L, ∃ cs, cs.Perm t.2.1 ∧ Run (tp t.1) cs t.2.2) → ∃ cs, cs.Perm (cys L) ∧ Run (tp (lds L)) cs (tp (rss L))
  | [], _ => ⟨[], .nil, .nil _⟩
  | t :: L, h => by
    obtain ⟨c1, p1, r1⟩ := h t List.mem_cons_self
    obtain ⟨c2, p2, r2⟩ := joinedN L fun x hx => h x (List.mem_cons_of_mem _ hx)
    refine ⟨c1 ++ c2, p1.append p2, ?_⟩
    have := joined r1 r2
    rw [tp_tpr] at this
    exact this
end RJ

/-! a static method called by its class: C.m(..) -/
namespace SM
open PySem PySem.Spec PyProof.Rows L2
/-- the class has a static method m, the def g -/
structure SMet (K : PySem.W.Frag) (C : Addr) (mc : Value) (m : Str) (g : Addr) : Prop where
  at_ : ∃ p rest, PySem.W.findCls K (.ref C) mc m = some (.get (.builtin "staticmethod.__get__") (.ref p) .none (.ref C)) ∧ PySem.W.recIn K p "staticmethod" = some (.ref g :: rest)
  kp : PySem.W.keepIn K (.ref g) = true
section
variable {X : Cx} {CX : CXT} {k : Nat} {C g : Addr} {mc : Value} {sp : Sp} {E : XK} {o e : Expr} {es : List Expr} {m : Str} {pos apos : Pos} {ta : TE} {t : TA} {pl : Sem Bool}
theorem type_of_reads {K : PySem.W.Frag} (h : PySem.W.readsIn K C mc = true) : PySem.W.typeIn K (.ref C) = some mc := by
  unfold PySem.W.readsIn at h
  simp only [Bool.and_eq_true, beq_iff_eq] at h
  exact h.1.1.1.2
theorem getmeth_sm {pins : List (Addr × Obj)} {σ : L2.St} {H : Hp} {s : Shared} {A : Around} {E : Value → Shared → Prop} {Q : Value × List Value → Shared → Prop} (I : Inv X pins σ H s) (r : ClX.CRead X.K C mc) (c : SMet X.K C mc m g)
    (h : ∀ s', Inv X pins σ H s' → Q (.ref g, []) s') : wpAny (model X.prog X.w) A (getMethod (.ref C) m pl) Q E s := by
  obtain ⟨p, rest, a1, a2⟩ := c.at_
  obtain ⟨mm, hF⟩ := I.fr
  unfold getMethod
  refine wpAny_bind ((PySem.W.looks_specialIn I.kIn r.ga).here ?_)
  have e0 : (Manifest.canonical "type.__getattribute__" != "object.__getattribute__") = true := by decide +kernel
  simp only [e0, if_true]
  refine wpAny_bind (PySem.W.cls_sm hF I.ok.mod.kin (type_of_reads r.rd) r.rd a1 a2 rfl ?_)
  exact wpAny_pure (h _ (I.tok _))
def tSMeth (C : Addr) (sp : Sp) (E : XK) (ta : TE) (t : TA) : TE := fun σ H Q => ta σ H fun x H1 => x = V.ref C ∧ t σ H1 fun vs H2 => sp vs H2 Q E
theorem pe_smeth (ho : PE X o ta) (r : ClX.CRead X.K C mc) (c : SMet X.K C mc m g) (F : FnR X.prog X.w X.K X.mg X.base CX k g sp) (hr : Room k X.A) (hx : Passes CX X E) (ha : PA X (e :: es) t)
    (he : starEach (e :: es) X.env = (false, eval e X.env) :: starEach es X.env := by rfl) (hpl : (backTo pos (starEach es X.env)).any (·.1) = false := by rfl)
    (hev : eval ((o.Attribute m apos).Call (e :: es) [] pos) X.env = (do
      let ov ← eval o X.env
      standAt apos.atName
      let (f, first) ← holding [ov] (getMethod ov m pl)
      callWith pos f first (backTo pos (starEach (e :: es) X.env)) (backToKw pos (keywordEach [] X.env))) := by rfl) :
    PE X (.Call (.Attribute o m apos) (e :: es) [] pos) (tSMeth C sp E ta t) := by
  refine ⟨fun pins s σ H Q I h => ?_⟩
  rw [hev]
  refine wpAny_bind (wpAny_mono (ho.run pins s σ H _ I h) (fun u s1 hu => ?_) fun _ _ z => z)
  obtain ⟨x, H1, I1, rx, rfl, h1⟩ := hu
  cases rx
  refine wpAny_bind (wpAny_standAt ?_)
  refine wpAny_bind (wpAny_holding (getmeth_sm I1 r c fun s2 I2 => ?_))
  refine PySem.W.callWith_K (h₀ := X.base) I2.ok.mod.kin c.kp (thn (ha.run pos pins s2 σ H1 _ I2 h1) fun us s3 ⟨vs, H3, I3, rv, q⟩ => ⟨I3.kIn, ?_⟩) he hpl
  refine wpAny_call (codeAny_mono (F X.A X.stack s3 H3 us vs Q E hr I3.env0 rv q) fun r s' hq => ?_)
  cases r with
  | error e => exact hx pins σ H3 s3 e s' I3 hq
  | ok fl =>
    cases fl with
    | ret u => exact I3.after hq
    | next => exact False.elim hq
    | brk => exact False.elim hq
    | cont => exact False.elim hq
theorem pe_smeth0 (ho : PE X o ta) (r : ClX.CRead X.K C mc) (c : SMet X.K C mc m g) (F : FnR X.prog X.w X.K X.mg X.base CX k g sp) (hr : Room k X.A) (hx : Passes CX X E)
    (hev : eval ((o.Attribute m apos).Call [] [] pos) X.env = (do
      let ov ← eval o X.env
      standAt apos.atName
      let (f, first) ← holding [ov] (getMethod ov m pl)
      callWith pos f first (backTo pos (starEach [] X.env)) (backToKw pos (keywordEach [] X.env))) := by rfl) :
    PE X (.Call (.Attribute o m apos) [] [] pos) (tSMeth C sp E ta tNil) := by
  refine ⟨fun pins s σ H Q I h => ?_⟩
  rw [hev]
  refine wpAny_bind (wpAny_mono (ho.run pins s σ H _ I h) (fun u s1 hu => ?_) fun _ _ z => z)
  obtain ⟨x, H1, I1, rx, rfl, h1⟩ := hu
  cases rx
  refine wpAny_bind (wpAny_standAt ?_)
  refine wpAny_bind (wpAny_holding (getmeth_sm I1 r c fun s2 I2 => ?_))
  refine PySem.W.callWith_K0 I2.kIn c.kp ?_
  refine wpAny_call (codeAny_mono (F X.A X.stack s2 H1 [] [] Q E hr I2.env0 .nil h1) fun r s' hq => ?_)
  cases r with
  | error e => exact hx pins σ H1 s2 e s' I2 hq
  | ok fl =>
    cases fl with
    | ret u => exact I2.after hq
    | next => exact False.elim hq
    | brk => exact False.elim hq
    | cont => exact False.elim hq
end
end SM

/-! Count.joined -/
namespace UJN
open PySem PySem.Spec PyProof.Rows L2 KA PH PM PA PB PC RM RN RS QE QF QG QH RJ
abbrev sJN : Stmt := inClass sClass 2
theorem scJN : FnScope ["counts", "cycles", "rest", "closed", "count", "point", "cycle"] ["counts"] (defScope sJN) := ⟨rfl, rfl, rfl, by decide +kernel, rfl, by decide +kernel, by decide +kernel⟩
theorem lc_any {J : It} {n : Nat} {G : Hp → Prop} {Y : Nat → Hp → V → Hp → Prop} (w : Walk J n G Y) {B : V → Hp → (Hp → Prop) → Prop} {H0 : Hp} {Qd : Hp → Prop} (Pv : Nat → Hp → Prop) (p0 : Pv 0 H0) (pg : ∀ i H, i ≤ n → Pv i H → G H)
    (step : ∀ i x H H', i < n → Pv i H → Y i H x H' → B x H' (Pv (i + 1))) (fin : ∀ H, Pv n H → Qd H) :
    ∃ W : Nat → Nat → Hp → Prop, (∃ m, W 0 m H0) ∧ ∀ i m H, W i m H → (J.stop i H ∧ Qd H) ∨ (J.go i H ∧ ∃ Nx : Hp → Prop, (∀ H', Nx H' → ∃ m', m' < m ∧ W (i + 1) m' H') ∧ ∀ x H', J.yld i H x H' → B x H' Nx) := by
  refine ⟨fun i m H => i ≤ n ∧ m = n - i ∧ Pv i H, ⟨n, Nat.zero_le _, rfl, p0⟩, ?_⟩
  rintro i m H ⟨hi, rfl, hp⟩
  rcases Nat.lt_or_ge i n with h | h
  · refine .inr ⟨w.goes i H h (pg i H hi hp), Pv (i + 1), fun H' hn => ⟨n - (i + 1), by omega, by omega, rfl, hn⟩, fun x H' hy => step i x H H' h hp (w.yields i H x H' h (pg i H hi hp) hy)⟩
  · have e : i = n := by omega
    subst e
    exact .inl ⟨w.stops H (pg i H hi hp), fin H hp⟩
/-- counts stand -/
def CntsAt (H : Hp) (C : Addr) : List V → List (List (Int × Int) × List Int) → Prop
  | [], [] => True
  | x :: xs, t :: ts => (∃ a, x = .ref a ∧ CountAt H C a t.1 t.2) ∧ CntsAt H C xs ts
  | _, _ => False
theorem CntsAt.same {C : Addr} {H H' : Hp} (s : Same H H') : ∀ {xs : List V} {ts : List (List (Int × Int) × List Int)}, CntsAt H C xs ts → CntsAt H' C xs ts
  | [], [], _ => trivial
  | _ :: _, _ :: _, ⟨⟨a, e, h⟩, r⟩ => ⟨⟨a, e, h.same s⟩, r.same s⟩
  | [], _ :: _, h => h.elim
  | _ :: _, [], h => h.elim
theorem CntsAt.length {C : Addr} {H : Hp} : ∀ {xs : List V} {ts : List (List (Int × Int) × List Int)}, CntsAt H C xs ts → xs.length = ts.length
  | [], [], _ => rfl
  | _ :: _, _ :: _, ⟨_, r⟩ => congrArg (· + 1) r.length
  | [], _ :: _, h => h.elim
  | _ :: _, [], h => h.elim
theorem CntsAt.get {C : Addr} {H : Hp} : ∀ {xs : List V} {ts : List (List (Int × Int) × List Int)}, CntsAt H C xs ts → ∀ {i : Nat} {x : V}, xs[i]? = some x → ∃ a t, x = .ref a ∧ ts[i]? = some t ∧ CountAt H C a t.1 t.2
  | x :: xs, t :: ts, ⟨⟨a, e, h⟩, r⟩, 0, y, hy => ⟨a, t, by rw [← e]; exact (Option.some.inj hy).symm, rfl, h⟩
  | x :: xs, t :: ts, ⟨_, r⟩, i + 1, y, hy => CntsAt.get r (i := i) hy
  | [], [], _, _, _, hy => by cases hy
  | [], _ :: _, h, _, _, _ => h.elim
  | _ :: _, [], h, _, _, _ => h.elim
def fr (ts : List (List (Int × Int) × List Int)) : List Int := (ts.map (·.2)).flatten
def fc (ts : List (List (Int × Int) × List Int)) : List (Int × Int) := (ts.map (·.1)).flatten
theorem fr_take {ts : List (List (Int × Int) × List Int)} {i : Nat} {t : List (Int × Int) × List Int} (h : ts[i]? = some t) : fr (ts.take (i + 1)) = fr (ts.take i) ++ t.2 := by
  unfold fr; rw [List.take_add_one, h]; simp
theorem fc_take {ts : List (List (Int × Int) × List Int)} {i : Nat} {t : List (Int × Int) × List Int} (h : ts[i]? = some t) : fc (ts.take (i + 1)) = fc (ts.take i) ++ t.1 := by
  unfold fc; rw [List.take_add_one, h]; simp
theorem flat_len {α β : Type} (f : α → List β) (ts : List α) (i : Nat) : ((ts.take i).map f).flatten.length ≤ ((ts.map f).flatten).length := by
  have : (ts.map f).flatten = ((ts.take i).map f).flatten ++ ((ts.drop i).map f).flatten := by
    rw [← List.flatten_append, ← List.map_append, List.take_append_drop]
  rw [this, List.length_append]
  omega
theorem pairs_in {H : Hp} {xs : List V} {rs : List (Int × Int)} (h : PairsAt H xs rs) {i : Nat} {x : V} (hx : xs[i]? = some x) : ∃ p r, x = .ref p ∧ rs[i]? = some r ∧ H p = some (.tup [.int r.1, .int r.2]) := by
  induction xs generalizing rs i with
  | nil => cases hx
  | cons y xs ih =>
    cases rs with
    | nil => exact h.elim
    | cons r rs =>
      obtain ⟨⟨p, e, hp⟩, h2⟩ := h
      cases i with
      | zero => exact ⟨p, r, by rw [← e]; exact (Option.some.inj hx).symm, rfl, hp⟩
      | succ i => exact ih h2 hx
theorem pairs_at1 {H : Hp} {q : Addr} {r : Int × Int} (h : H q = some (.tup [.int r.1, .int r.2])) : PairsAt H [.ref q] [r] := ⟨⟨q, rfl, h⟩, trivial⟩
section
variable {P : Program} {w : World} {K : PySem.W.Frag} {mg : Str → Option Value} {base : Heap} {C : Addr}
/-- the body, its counts in a tuple -/
def spJB (C : Addr) : Sp := fun vs H Q _ => ∃ (p : Addr) (xs : List V) (ts : List (List (Int × Int) × List Int)), vs = [.ref p] ∧ H p = some (.tup xs) ∧ CntsAt H C xs ts ∧ (fr ts).length ≤ 2400 ∧ (fc ts).length ≤ 1500 ∧
  ∀ H' x ds rs cs, Same H H' → H x = none → CountAt H' C x ds rs → Run (tp (fr ts)) cs rs → NF rs → ds.Perm (fc ts ++ cs) → ds.Pairwise Le → Q (.ref x) H'
def spJN (C : Addr) : Sp := fun vs H Q _ => ∃ (ts : List (List (Int × Int) × List Int)), CntsAt H C vs ts ∧ vs.length ≤ 100 ∧ (fr ts).length ≤ 2400 ∧ (fc ts).length ≤ 1500 ∧
  ∀ H' x ds rs cs, Same H H' → H x = none → CountAt H' C x ds rs → Run (tp (fr ts)) cs rs → NF rs → ds.Perm (fc ts ++ cs) → ds.Pairwise Le → Q (.ref x) H'
theorem ok_JN {pC pR f fI fO fC fR : Addr} {fd dI dO dC dR : FuncData} {k : Nat} (F : Fun K "joined" "Count.joined" sJN f fd) (T : Cnt K C) (M : Mk K C fI) (gC : mg "Count" = some (.ref C))
    (GI : FnOk P w K mg base CX0 (k + 2) fI dI ["self", "cycles", "rest"] (spInit K C)) (bI : Binds K dI ["self", "cycles", "rest"] [])
    (GO : FnOk P w K mg base CX0 (k + 3) fO dO ["load"] (spCo K)) (gO : mg "_counted" = some (.ref fO)) (kO : PySem.W.keepIn K (.ref fO) = true) (bO : Binds K dO ["load"] [])
    (prC : PropOf K C "cycles" pC fC) (GC : FnOk P w K mg base CX0 (k + 2) fC dC ["self"] (spPC C)) (bC : Binds K dC ["self"] [])
    (prR : PropOf K C "rest" pR fR) (GR : FnOk P w K mg base CX0 (k + 2) fR dR ["self"] (spPR C)) (bR : Binds K dR ["self"] []) :
    FnR P w K mg base CX0 (k + 4) f (spJN C) := by
  obtain ⟨oc, od, kV, doc, pm, an, cdv, ct, osl, e1, lk, hcd⟩ := F.ex
  subst e1
  have star := StX.fn_star (CX := CX0) (P := P) (w := w) (mg := mg) (base := base) (k := k + 3) (N := ["counts", "cycles", "rest", "closed", "count", "point", "cycle"]) (ps := []) (pv := "counts") (sp := spJB C) lk hcd scJN StX.cxUp_none
    (fun us rest hl => by
      have : us = [] := List.length_eq_zero_iff.mp hl
      subst this
      cases rest <;> rfl)
    (fun A outer s H vs Q E hr h => ?_)
  · intro A outer s H us vs Q E hr e0 rv h
    obtain ⟨ts, ca, lv, l1, l2, q⟩ := h
    refine star A outer s H us vs Q E hr e0 rv ⟨[], vs, rfl, rfl, Nat.le_trans lv (by decide), fun p np => ?_⟩
    have sp := same_new (o := .tup vs) np
    refine ⟨p, vs, ts, rfl, upd_same, ca.same sp, l1, l2, fun H' x ds rs cs sm nx => ?_⟩
    exact q H' x ds rs cs (sp.trans sm) (sp.free nx)
  · obtain ⟨p, xs, ts, rfl, hp, ca, l1, l2, hq⟩ := h
    refine ⟨_, pss_cons (ps_asg (pe_call GO hr (by rfl) gO kO bO .nil pass0 (pa_cons (pe_lc2 (own := [("count", 4), ("point", 5)]) (vs1 := [5]) (g := gName 4) (g1 := gName 5) (wi1 := iTup K (tProp C (spPR C) [] E0 (tVar 4))) (te := tVar 5) rfl scJN.nd (pi_tup (pv 0))
          (blkOk_by (own := [("count", 4), ("point", 5)]) (N := ["counts", "cycles", "rest", "closed", "count", "point", "cycle"]) (sc := defScope sJN) (by decide +kernel)) (by decide)
          (fun _ _ _ _ _ => pg_name (i := 4) scJN.nd rfl (Or.inl rfl) (Or.inr rfl)) (fun _ _ _ _ _ => pts_nil)
          (fun _ _ _ _ _ => pi_tup (pe_prop (pv 4) T.cl prR GR hr bR .nil pass0 (by rfl)))
          (fun _ _ _ _ _ => pg_name (i := 5) scJN.nd rfl (Or.inl rfl) (Or.inr rfl)) (fun _ _ _ _ _ => pts_nil) (fun _ _ _ _ _ => pv 5)) pa_nil))
          (pg_tup rfl (pgs_cons (pg_name (i := 1) scJN.nd rfl (.inl rfl)) (pgs_cons (pg_name (i := 2) scJN.nd rfl (.inl rfl)) pgs_nil))))
      (pss_cons (ps_setLc2 (i := 3) (own := [("count", 4), ("cycle", 6)]) (vs1 := [6]) (g := gName 4) (g1 := gName 6) (wi1 := iTup K (tProp C (spPC C) [] E0 (tVar 4))) (te := tVar 6) rfl scJN.nd rfl rfl (sw_true rfl rfl rfl (by decide +kernel))
          (pi_tup (pv 0))
          (blkOk_by (own := [("count", 4), ("cycle", 6)]) (N := ["counts", "cycles", "rest", "closed", "count", "point", "cycle"]) (sc := defScope sJN) (by decide +kernel)) (by decide)
          (fun _ _ _ _ _ => pg_name (i := 4) scJN.nd rfl (Or.inl rfl) (Or.inr rfl)) (fun _ _ _ _ _ => pts_nil)
          (fun _ _ _ _ _ => pi_tup (pe_prop (pv 4) T.cl prC GC hr bC .nil pass0 (by rfl)))
          (fun _ _ _ _ _ => pg_name (i := 6) scJN.nd rfl (Or.inl rfl) (Or.inr rfl)) (fun _ _ _ _ _ => pts_nil) (fun _ _ _ _ _ => pv 6))
      (pss_one (ps_ret (pe_make M GI hr (by rfl) gC bI .nil pass0 (pa_cons (pe_op op_cat (pv 3) (pv 1)) (pa_cons (pv 2) pa_nil)))))), ?_⟩
    have l1' : ∀ i, (fr (ts.take i)).length ≤ 2400 := fun i => Nat.le_trans (flat_len _ ts i) l1
    have l2' : ∀ i, (fc (ts.take i)).length ≤ 1500 := fun i => Nat.le_trans (flat_len _ ts i) l2
    have ctl := ca.length
    refine ⟨.ref p, rfl, p, rfl, ⟨_, SqT.of hp⟩, fun D nD => ?_⟩
    refine lc_any (walk_tup (K := K) (a := p) (xs := xs)) (fun i Hx => Same H Hx ∧ Hx D = some (.lst ((fr (ts.take i)).map V.int))) ⟨same_new nD, upd_same⟩ (fun i Hx _ g => SqT.of (g.1 _ _ hp)) ?_ ?_
    · rintro i x H9 Hx hi ⟨sm, eD⟩ ⟨rfl, hx⟩
      obtain ⟨a, t, rfl, ht, cat⟩ := ca.get hx
      have cat1 := cat.same sm
      obtain ⟨dx, fs, hxx⟩ : ∃ dx fs, Hx a = some (.ins C dx fs) := by
        obtain ⟨dx, t1, t2, ys, h1, _⟩ := cat1
        exact ⟨dx, _, h1⟩
      refine ⟨rfl, ?_⟩
      refine iteT (B := True) ?_
      refine ⟨.ref a, rfl, a, dx, fs, rfl, hxx, a, t.1, t.2, rfl, cat1, fun t2 et2 => ⟨t2, rfl, ⟨_, SqT.of et2⟩, ?_⟩⟩
      have lt := l1' (i + 1)
      rw [fr_take ht, List.length_append] at lt
      refine lc_any (walk_tup (K := K) (a := t2) (xs := t.2.map V.int)) (fun j Hy => Same H Hy ∧ Hy t2 = some (.tup (t.2.map V.int)) ∧ Hy D = some (.lst ((fr (ts.take i) ++ t.2.take j).map V.int))) ⟨sm, et2, by rw [List.take_zero, List.append_nil]; exact eD⟩ (fun j Hy _ g => SqT.of g.2.1) ?_ ?_
      · rintro j y H9 Hy hj ⟨sm2, e2, eD2⟩ ⟨rfl, hy⟩
        obtain ⟨r, hr2, rfl⟩ := int_at hy
        have n2D : t2 ≠ D := ne_of e2 eD2 (by intro z; cases z)
        refine ⟨rfl, ?_⟩
        refine iteT (B := True) ?_
        refine ⟨.int r, rfl, _, eD2, ?_, same_again nD sm2, by rw [upd_ne n2D]; exact e2, ?_⟩
        · rw [List.length_map, List.length_append, List.length_take]
          exact small22000 (by omega)
        · rw [upd_same, List.take_add_one, hr2]
          simp
      · rintro Hy ⟨sm2, e2, eD2⟩
        rw [List.length_map, List.take_length, ← fr_take ht] at eD2
        exact ⟨sm2, eD2⟩
    rintro H1 ⟨sm1, eD⟩
    rw [ctl, List.take_length] at eD
    refine ⟨D, fr ts, rfl, .inl (SqL.of eD), by omega, fun H2 q c r ys cs rs s2 nq eq ec pa er run nf => ?_⟩
    refine ⟨q, _, rfl, SqT.of eq, rfl, .ref c, [.ref r], rfl, .ref r, [], rfl, rfl, ?_⟩
    have sm2 := sm1.trans s2
    have hp2 := sm2 _ _ hp
    refine ⟨.ref p, rfl, p, rfl, ⟨_, SqT.of hp2⟩, fun E1 nE => ?_⟩
    refine lc_any (walk_tup (K := K) (a := p) (xs := xs)) (fun i Hx => Same H2 Hx ∧ ∃ zs, Hx E1 = some (.lst zs) ∧ PairsAt Hx zs (fc (ts.take i))) ⟨same_new nE, [], upd_same, trivial⟩ (fun i Hx _ g => SqT.of (g.1 _ _ hp2)) ?_ ?_
    · rintro i x H9 Hx hi ⟨sm, zs, eD, pz⟩ ⟨rfl, hx⟩
      obtain ⟨a, t, rfl, ht, cat⟩ := ca.get hx
      have cat1 := cat.same (sm2.trans sm)
      obtain ⟨dx, fs, hxx⟩ : ∃ dx fs, Hx a = some (.ins C dx fs) := by
        obtain ⟨dx, t1, t2, ys, h1, _⟩ := cat1
        exact ⟨dx, _, h1⟩
      refine ⟨rfl, ?_⟩
      refine iteT (B := True) ?_
      refine ⟨.ref a, rfl, a, dx, fs, rfl, hxx, a, t.1, t.2, rfl, cat1, fun t1 ws et1 pw => ⟨t1, rfl, ⟨_, SqT.of et1⟩, ?_⟩⟩
      have lt := l2' (i + 1)
      rw [fc_take ht, List.length_append] at lt
      have lw := pw.length
      have lz := pz.length
      refine lc_any (walk_tup (K := K) (a := t1) (xs := ws)) (fun j Hy => Same H2 Hy ∧ Hy t1 = some (.tup ws) ∧ PairsAt Hy ws t.1 ∧ ∃ zs, Hy E1 = some (.lst zs) ∧ PairsAt Hy zs (fc (ts.take i) ++ t.1.take j)) ⟨sm, et1, pw, zs, eD, by rw [List.take_zero, List.append_nil]; exact pz⟩ (fun j Hy _ g => SqT.of g.2.1) ?_ ?_
      · rintro j y H9 Hy hj ⟨sm3, e3, pw3, zs3, eD3, pz3⟩ ⟨rfl, hy⟩
        obtain ⟨q1, r1, rfl, hr1, hq1⟩ := pairs_in pw3 hy
        have n2D : t1 ≠ E1 := ne_of e3 eD3 (by intro z; cases z)
        refine ⟨rfl, ?_⟩
        refine iteT (B := True) ?_
        refine ⟨.ref q1, rfl, _, eD3, ?_, same_again nE sm3, by rw [upd_ne n2D]; exact e3, pairs_upd eD3 pw3, _, upd_same, ?_⟩
        · rw [pz3.length, List.length_append, List.length_take]
          exact small22000 (by omega)
        · rw [List.take_add_one, hr1, ← List.append_assoc]
          refine PairsAt.append (pairs_upd eD3 pz3) (pairs_upd eD3 (pairs_at1 hq1))
      · rintro Hy ⟨sm3, e3, pw3, zs3, eD3, pz3⟩
        rw [lw, List.take_length, ← fc_take ht] at pz3
        exact ⟨sm3, zs3, eD3, pz3⟩
    rintro H3 ⟨sm3, zs, eE, pz⟩
    rw [ctl, List.take_length] at pz
    have lz := pz.length
    have lr := run.len
    have ltp := tp_len (fr ts)
    have ly := pa.length
    have hl : zs.length + ys.length ≤ sizeLine := Nat.le_of_lt (small22000 (by omega))
    have eC3 := sm3 _ _ ec
    have eR3 := sm3 _ _ er
    have pa3 := pa.same sm3
    refine ⟨.ref E1, rfl, .ref c, rfl, E1, c, _, _, rfl, rfl, eE, eC3, hl, fun l nl => ?_⟩
    have s4 := same_new (o := .lst (zs ++ ys)) nl
    refine ⟨.ref r, rfl, fun x dx nx ndx ne => ?_⟩
    have s5 : Same (upd H3 l (.lst (zs ++ ys))) (upd (upd (upd H3 l (.lst (zs ++ ys))) dx (.own x)) x (.ins C dx [])) := (same_new ndx).trans (same_new (by rw [upd_ne ne.symm]; exact nx))
    have s45 := s4.trans s5
    refine ⟨x, l, r, dx, zs ++ ys, fc ts ++ cs, rs, rfl, upd_same, s5 _ _ upd_same, (PairsAt.append pz pa3).same s45, s45 _ _ eR3, fun H' ds keep ca' perm srt => ⟨rfl, ?_⟩⟩
    have s6 : Same (upd H3 l (.lst (zs ++ ys))) H' := fun b o e => keep b o (ne_of_none e nx) (s5 _ _ e)
    have s7 := sm2.trans (sm3.trans s4)
    exact hq H' x ds rs cs (s7.trans s6) (s7.free nx) ca' run nf perm srt
end
end UJN

/-! the law's own count, by a stack of slices -/
namespace UCT
open PySem PySem.Spec PyProof.Rows L2 KA KD KL PH PM PA PB PC RM RN RS QE QF QG QH QK QL WN WF2 WP
theorem last4 : ∀ {m : List Int}, 4 ≤ m.length → ∃ pre b c d e, m = pre ++ [b, c, d, e] := by
  intro m h
  rcases List.eq_nil_or_concat m with rfl | ⟨m1, e, rfl⟩
  · simp at h
  · obtain ⟨pre, b, c, d, rfl⟩ := last3 (m := m1) (by simp at h; omega)
    exact ⟨pre, b, c, d, e, by simp⟩
theorem cut_neg {α : Type} (xs : List V) (j : Nat) : cutV xs (some (-((j : Int) + 1))) none = xs.drop (xs.length - (j + 1)) := by
  unfold cutV
  have e : HT.sIx xs.length 0 (some (-((j : Int) + 1))) = xs.length - (j + 1) := by
    show (if (-((j : Int) + 1)) < 0 then (-((j : Int) + 1) + (xs.length : Int)).toNat else min (-((j : Int) + 1)).toNat xs.length) = xs.length - (j + 1)
    rw [if_pos (by omega)]
    omega
  rw [HT.sIx_none, e]
  exact List.take_of_length_le (by rw [List.length_drop]; omega)
theorem cut_toneg (xs : List V) (j : Nat) : cutV xs none (some (-((j : Int) + 1))) = xs.take (xs.length - (j + 1)) := by
  unfold cutV
  have e : HT.sIx xs.length xs.length (some (-((j : Int) + 1))) = xs.length - (j + 1) := by
    show (if (-((j : Int) + 1)) < 0 then (-((j : Int) + 1) + (xs.length : Int)).toNat else min (-((j : Int) + 1)).toNat xs.length) = xs.length - (j + 1)
    rw [if_pos (by omega)]
    omega
  rw [HT.sIx_none, e, List.drop_zero, Nat.sub_zero]
theorem plc4 (b c d e : Int) : plc [b, c, d, e] = if Taken b c d e then [1] else [] := by
  unfold plc
  show (((List.range 1).filter (takenAt [b, c, d, e])).map fun (i : Nat) => (i : Int) + 1) = _
  have : takenAt [b, c, d, e] 0 = decide (Taken b c d e) := rfl
  by_cases h : Taken b c d e
  · rw [if_pos h, show List.range 1 = [0] from rfl, List.filter_cons, this, decide_eq_true h]; rfl
  · rw [if_neg h, show List.range 1 = [0] from rfl, List.filter_cons, this, decide_eq_false h]; rfl
theorem plc_short {m : List Int} (h : m.length ≤ 3) : plc m = [] := by
  unfold plc
  rw [Nat.sub_eq_zero_of_le h]; rfl
theorem plc_short' {mm : List Int} {r : Int} (h : ¬ 3 ≤ mm.length) : plc ((mm ++ [r]).drop ((mm ++ [r]).length - 4)) = [] := by
  refine plc_short ?_
  rw [List.length_drop, List.length_append, List.length_singleton]
  omega
/-- what the loops hold -/
structure Ls (H : Hp) (t C P : Addr) (tp' : List Int) (ps : List Int) (xs : List V) (cs : List (Int × Int)) (Hx : Hp) : Prop where
  sm : Same H Hx
  tu : Hx t = some (.lst (tp'.map V.int))
  pl : Hx P = some (.lst (ps.map V.int))
  c : Hx C = some (.lst xs)
  pa : PairsAt Hx xs cs
  nP : H P = none
  PC : P ≠ C
  Pt : P ≠ t
  tC : t ≠ C
theorem Ls.same {H : Hp} {t C P : Addr} {tt ps : List Int} {xs : List V} {cs : List (Int × Int)} {H1 H2 : Hp} (g : Ls H t C P tt ps xs cs H1) (s : Same H1 H2) : Ls H t C P tt ps xs cs H2 :=
  ⟨g.sm.trans s, s _ _ g.tu, s _ _ g.pl, s _ _ g.c, g.pa.same s, g.nP, g.PC, g.Pt, g.tC⟩
section
variable {P : Program} {w : World} {K : PySem.W.Frag} {mg : Str → Option Value} {base : Heap}
def spCt (K : PySem.W.Frag) : Sp := fun vs H Q _ => ∃ (f a : Addr) (ns : List Int), vs = [.ref f, .ref a] ∧ SqL K H a (ns.map V.int) ∧ ns.length ≤ 500 ∧
  ∀ H' p q1 q2 ys cs ds rs, Same H H' → H p = none → H' p = some (.tup [.ref q1, .ref q2]) → H' q1 = some (.lst ys) → PairsAt H' ys ds → ds.Perm cs → ds.Pairwise Le → H' q2 = some (.lst (rs.map V.int)) → Run (tp ns) cs rs → NF rs → Q (.ref p) H'
theorem ok_ct {f0 fLP fPL fLR : Addr} {fd dLP dPL dLR : FuncData} {k : Nat} (F : Fun K "_law_count" "_law_count" sCt f0 fd)
    (GLP : FnOk P w K mg base CX0 (k + 2) fLP dLP ["load"] (spLP K)) (gLP : mg "_law_points" = some (.ref fLP)) (kLP : PySem.W.keepIn K (.ref fLP) = true) (bLP : Binds K dLP ["load"] [])
    (GPL : FnOk P w K mg base CX0 (k + 2) fPL dPL ["points"] (spPl K)) (gPL : mg "_law_places" = some (.ref fPL)) (kPL : PySem.W.keepIn K (.ref fPL) = true) (bPL : Binds K dPL ["points"] [])
    (GLR : FnOk P w K mg base CX0 (k + 2) fLR dLR ["one", "other"] spRng) (gLR : mg "_law_range" = some (.ref fLR)) (kLR : PySem.W.keepIn K (.ref fLR) = true) (bLR : Binds K dLR ["one", "other"] [])
    (ms : mg "sorted" = none) : FnOk P w K mg base CX0 (k + 3) f0 fd ["feed", "load"] (spCt K) := by
  refine F.ok scCt (fun vs H Q E h => ?_) (fun cdv A outer s H vs Q E hr h => ?_)
  · obtain ⟨f, a, ns, rfl, _⟩ := h
    rfl
  · obtain ⟨f, a, ns, rfl, hS, hlen, hq⟩ := h
    refine ⟨_, pss_cons (ps_par (i := 2) (j := 3) (by rfl) scCt.nd rfl rfl (by decide) rfl rfl (pa_cons (pe_lst pa_nil) (pa_cons (pe_lst pa_nil) pa_nil)) (by rfl))
      (pss_cons (ps_for PassesOwn.never rfl (pi_list (pe_call GLP hr (by rfl) gLP kLP bLP .nil pass0 (pa_cons (pv 1) pa_nil))) (pg_name (i := 4) scCt.nd rfl (.inl rfl))
        (pss_cons (ps_expr (pe_bm PySem.F.plainAttrs_list PySem.F.slot_list_append PySem.F.type_list_append mt_append (pv 2) (pa_cons (pv 4) pa_nil)))
        (pss_one (ps_while PassesOwn.never (pt_cmpR (op_neD hr.units) (pe_call GPL hr (by rfl) gPL kPL bPL .nil pass0 (pa_cons (pe_slice sl_list (pv 2) (po_some (pe_un un_neg pe_int)) po_none) pa_nil)) (pe_lst pa_nil) (nomark _))
          (pss_cons (ps_expr (pe_bm PySem.F.plainAttrs_list PySem.F.slot_list_append PySem.F.type_list_append mt_append (pv 3) (pa_cons (pe_call GLR hr (by rfl) gLR kLR bLR .nil pass0 (pa_cons (pe_ix ix_list (pv 2) (pe_un un_neg pe_int) (fun _ _ => rfl)) (pa_cons (pe_ix ix_list (pv 2) (pe_un un_neg pe_int) (fun _ _ => rfl)) pa_nil))) pa_nil)))
          (pss_one (ps_set (i := 2) scCt.nd rfl (.inl rfl) (pe_op op_cat (pe_slice sl_list (pv 2) po_none (po_some (pe_un un_neg pe_int))) (pe_slice sl_list (pv 2) (po_some (pe_un un_neg pe_int)) po_none)))))))))
      (pss_one (ps_ret (pe_tup (pa_cons (pe_callB cr_sortedPO (by rfl) ms (by decide +kernel) (pa_cons (pv 3) pa_nil)) (pa_cons (pv 2) pa_nil)))))), ?_⟩
    refine ⟨Nat.zero_le _, fun P0 nP => ⟨Nat.zero_le _, fun C nC => ⟨.ref P0, .ref C, rfl, ?_⟩⟩⟩
    have nPC : P0 ≠ C := fun z => by rw [← z, upd_same] at nC; cases nC
    have nC0 : H C = none := (same_new nP).free nC
    have sm0 : Same H (upd (upd H P0 (.lst [])) C (.lst [])) := (same_new nP).trans (same_new nC)
    have eP0 : (upd (upd H P0 (.lst [])) C (.lst [])) P0 = some (.lst []) := by rw [upd_ne nPC, upd_same]
    have eC0 : (upd (upd H P0 (.lst [])) C (.lst [])) C = some (.lst []) := upd_same
    generalize upd (upd H P0 (.lst [])) C (.lst []) = H0 at sm0 eC0 eP0 ⊢
    refine ⟨.ref a, rfl, a, ns, rfl, sm0.seq hS, by omega, fun H1 t s1 nt et => ?_⟩
    have htl := tp_len ns
    have eP1 := s1 _ _ eP0
    have eC1 := s1 _ _ eC0
    have ntP : P0 ≠ t := fun z => by rw [← z, eP0] at nt; cases nt
    have ntC : t ≠ C := fun z => by rw [z, eC0] at nt; cases nt
    have g0 : Ls H t C P0 (tp ns) [] [] [] H1 := ⟨sm0.trans s1, et, eP1, eC1, trivial, nP, nPC, ntP, ntC⟩
    refine ⟨t, rfl, ⟨_, SqL.of et⟩, for_list (K := K) (a := t) (xs := (tp ns).map V.int) (fun i σ Hx => ∃ (P' : Addr) (xs : List V) (cs : List (Int × Int)) (rs : List Int) (r4 : Option V), σ = [some (.ref f), some (.ref a), some (.ref P'), some (.ref C), r4] ∧
      Ls H t C P' (tp ns) rs xs cs Hx ∧ Run ((tp ns).take i) cs rs ∧ NF rs) ?_ ?_ ?_ ?_⟩
    · exact ⟨P0, [], [], [], none, rfl, g0, .nil _, fun c q s => by have := s.len; simp at this⟩
    · rintro i σ Hx _ ⟨P', xs, cs, rs, r4, rfl, g, _⟩
      exact SqL.of g.tu
    · rintro i x σ Hx hx ⟨P', xs, cs, rs, r4, rfl, g, run, nf⟩
      obtain ⟨r, hr2, rfl⟩ := int_at hx
      have hin : i < (tp ns).length := (List.getElem?_eq_some_iff.mp hr2).1
      have hrl := run.len
      rw [List.length_take] at hrl
      refine ⟨.ref P', rfl, .inl ⟨rfl, _, SqL.of g.pl⟩, .int r, rfl, P', _, _, rfl, rfl, g.pl, by rw [List.length_map]; exact small22000 (by omega), ?_⟩
      have e1 : rs.map V.int ++ [V.int r] = (rs ++ [r]).map V.int := by rw [List.map_append]; rfl
      rw [e1]
      have g1 : Ls H t C P' (tp ns) (rs ++ [r]) xs cs (upd Hx P' (.lst ((rs ++ [r]).map V.int))) :=
        ⟨same_again g.nP g.sm, by rw [upd_ne g.Pt.symm]; exact g.tu, upd_same, by rw [upd_ne g.PC.symm]; exact g.c, pairs_upd g.pl g.pa, g.nP, g.PC, g.Pt, g.tC⟩
      have run1 : Run ((tp ns).take (i + 1)) cs (rs ++ [r]) := by
        rw [List.take_add_one, hr2]
        exact RN.Run.suffix run [r]
      refine ⟨fun m σ Hx => ∃ (P' : Addr) (xs : List V) (cs : List (Int × Int)) (mm : List Int), m = mm.length ∧ σ = [some (.ref f), some (.ref a), some (.ref P'), some (.ref C), some (.int r)] ∧ Ls H t C P' (tp ns) (mm ++ [r]) xs cs Hx ∧ Run ((tp ns).take (i + 1)) cs (mm ++ [r]) ∧ NF mm,
        ⟨_, P', xs, cs, rs, rfl, rfl, g1, run1, nf⟩, ?_⟩
      clear g1 run1 g run nf hrl e1 xs cs rs P'
      rintro m σ Hx ⟨P', xs, cs, mm, rfl, rfl, g, run, nf⟩
      have hrl := run.len
      rw [List.length_take, List.length_append, List.length_singleton] at hrl
      have hm : ((mm ++ [r]).map V.int).length = mm.length + 1 := by simp
      have fin : NF (mm ++ [r]) → ∀ Hz, Same Hx Hz → ∃ (P'' : Addr) (xs : List V) (cs : List (Int × Int)) (rs : List Int) (r4 : Option V), [some (.ref f), some (.ref a), some (.ref P'), some (.ref C), some (.int r)] = [some (.ref f), some (.ref a), some (.ref P''), some (.ref C), r4] ∧
          Ls H t C P'' (tp ns) rs xs cs Hz ∧ Run ((tp ns).take (i + 1)) cs rs ∧ NF rs := fun n Hz sz => ⟨P', xs, cs, mm ++ [r], _, rfl, g.same sz, run, n⟩
      refine ⟨.ref P', rfl, 4, rfl, _, rfl, P', _, rfl, SqL.of g.pl, fun q nq => ?_⟩
      have eq4 : cutV ((mm ++ [r]).map V.int) (some (-(4 : Int))) none = ((mm ++ [r]).drop ((mm ++ [r]).length - 4)).map V.int := by
        rw [show (-(4 : Int)) = -(((3 : Nat) : Int) + 1) by decide, cut_neg (α := Int), List.map_drop, List.length_map]
      rw [eq4]
      have s2 := same_new (o := .lst (((mm ++ [r]).drop ((mm ++ [r]).length - 4)).map V.int)) nq
      have eqq := upd_same (H := Hx) (a := q) (o := .lst (((mm ++ [r]).drop ((mm ++ [r]).length - 4)).map V.int))
      generalize upd Hx q (.lst (((mm ++ [r]).drop ((mm ++ [r]).length - 4)).map V.int)) = H2 at s2 eqq ⊢
      refine ⟨q, _, rfl, SqL.of eqq, by rw [List.length_drop]; omega, fun H3 p1 s3 n1 ep1 => ⟨Nat.zero_le _, fun e1 ne1 => ?_⟩⟩
      have s4 := same_new (o := .lst []) ne1
      have ep1' := s4 _ _ ep1
      have ee1 := upd_same (H := H3) (a := e1) (o := .lst [])
      have s24 := s2.trans (s3.trans s4)
      generalize upd H3 e1 (.lst []) = H4 at s4 ep1' ee1 s24 ⊢
      clear s2 s3 s4 eqq ep1
      by_cases h3 : 3 ≤ mm.length
      · obtain ⟨pre, b, c, d, rfl⟩ := last3 h3
        have hml : (pre ++ [b, c, d]).length = pre.length + 3 := by simp
        have el : pre ++ [b, c, d] ++ [r] = pre ++ b :: c :: d :: r :: [] := by simp
        have ed : (pre ++ [b, c, d] ++ [r]).drop ((pre ++ [b, c, d] ++ [r]).length - 4) = [b, c, d, r] := by
          rw [el, show (pre ++ [b, c, d, r]).length - 4 = pre.length by simp, List.drop_left]
        rw [ed, plc4] at ep1'
        by_cases tk : Taken b c d r
        · rw [if_pos tk] at ep1'
          refine ⟨.list (dInts [1]), .list (dInts []), .lst (SqL.of ep1') (dp_ints [1]), .lst (SqL.of ee1) (dp_ints []), shaped_lst [1], shaped_lst [], _, rfl, ?_⟩
          rw [show PyData.eqv (.list (dInts [1])) (.list (dInts [])) = false by rfl]
          refine iteT ⟨fun σ Hx => ∃ m', m' < (pre ++ [b, c, d]).length ∧ ∃ (P' : Addr) (xs : List V) (cs : List (Int × Int)) (mm : List Int), m' = mm.length ∧ σ = [some (.ref f), some (.ref a), some (.ref P'), some (.ref C), some (.int r)] ∧ Ls H t C P' (tp ns) (mm ++ [r]) xs cs Hx ∧ Run ((tp ns).take (i + 1)) cs (mm ++ [r]) ∧ NF mm, fun _ _ z => z, ?_⟩
          have g2 := g.same s24
          have eR : H4 P' = some (.lst ((pre ++ [b]).map V.int ++ [V.int c, V.int d, V.int r])) := by
            rw [g2.pl]
            simp [List.map_append]
          refine ⟨.ref C, rfl, .inl ⟨rfl, _, SqL.of g2.c⟩, .ref P', rfl, 3, rfl, P', _, -3, .int c, rfl, rfl, SqL.of eR, atI_last3 _ _ _ _, .ref P', rfl, 2, rfl, P', _, -2, .int d, rfl, rfl, SqL.of eR, atI_last2' _ _ _ _, c, d, rfl, fun q2 nq2 => ?_⟩
          have s5 := same_new (o := .tup [.int (rg c d).1, .int (rg c d).2]) nq2
          have eq2 := upd_same (H := H4) (a := q2) (o := .tup [.int (rg c d).1, .int (rg c d).2])
          have g3 := g2.same s5
          have hxl : xs.length ≤ 21000 := by rw [g2.pa.length]; omega
          generalize upd H4 q2 (.tup [.int (rg c d).1, .int (rg c d).2]) = H5 at s5 eq2 g3 ⊢
          refine ⟨C, xs, .ref q2, rfl, rfl, g3.c, small22000 (by omega), ?_⟩
          have nC0 : H C = none := nC0
          have g4 : Ls H t C P' (tp ns) (pre ++ [b, c, d] ++ [r]) (xs ++ [.ref q2]) (cs ++ [rg c d]) (upd H5 C (.lst (xs ++ [.ref q2]))) :=
            ⟨same_again nC0 g3.sm, by rw [upd_ne g.tC]; exact g3.tu, by rw [upd_ne g.PC]; exact g3.pl, upd_same, PairsAt.append (pairs_upd g3.c g3.pa) ⟨⟨q2, rfl, by rw [upd_ne (fun z => by rw [z, g3.c] at eq2; cases eq2)]; exact eq2⟩, trivial⟩, g.nP, g.PC, g.Pt, g.tC⟩
          generalize upd H5 C (.lst (xs ++ [.ref q2])) = H6 at g4 ⊢
          refine ⟨.ref P', rfl, 3, rfl, _, rfl, P', _, rfl, SqL.of g4.pl, fun l1 nl1 => ?_⟩
          have c1 : cutV ((pre ++ [b, c, d] ++ [r]).map V.int) none (some (-(3 : Int))) = (pre ++ [b]).map V.int := by
            rw [show (-(3 : Int)) = -(((2 : Nat) : Int) + 1) by decide, cut_toneg, List.length_map, ← List.map_take]
            congr 1
            rw [show pre ++ [b, c, d] ++ [r] = (pre ++ [b]) ++ [c, d, r] by simp, show ((pre ++ [b]) ++ [c, d, r]).length - (2 + 1) = (pre ++ [b]).length by simp, List.take_left]
          rw [c1]
          have s6 := same_new (o := .lst ((pre ++ [b]).map V.int)) nl1
          refine ⟨.ref P', rfl, 1, rfl, _, rfl, P', _, rfl, SqL.of (s6 _ _ g4.pl), fun l2 nl2 => ?_⟩
          have c2 : cutV ((pre ++ [b, c, d] ++ [r]).map V.int) (some (-(1 : Int))) none = [r].map V.int := by
            rw [show (-(1 : Int)) = -(((0 : Nat) : Int) + 1) by decide, cut_neg (α := Int), List.length_map, ← List.map_drop]
            congr 1
            rw [show (pre ++ [b, c, d] ++ [r]).length - (0 + 1) = (pre ++ [b, c, d]).length by simp, List.drop_left]
          rw [c2]
          have s7 := same_new (o := .lst ([r].map V.int)) nl2
          have g7 := (g4.same s6).same s7
          refine ⟨l1, l2, _, _, rfl, rfl, s7 _ _ upd_same, upd_same, ?_, fun P'' nP'' => ?_⟩
          · rw [List.length_map, List.length_map]
            have hb : (pre ++ [b]).length = pre.length + 1 := by simp
            rw [hb]
            exact Nat.le_of_lt (small22000 (show pre.length + 1 + 1 ≤ 22000 by omega))
          have e8 : (pre ++ [b]).map V.int ++ [r].map V.int = (pre ++ [b] ++ [r]).map V.int := by rw [← List.map_append]
          rw [e8]
          have s8 := same_new (o := .lst ((pre ++ [b] ++ [r]).map V.int)) nP''
          have g8 := g7.same s8
          have n8C : P'' ≠ C := fun z => by rw [z, g7.c] at nP''; cases nP''
          have n8t : P'' ≠ t := fun z => by rw [z, g7.tu] at nP''; cases nP''
          refine ⟨(pre ++ [b]).length, by simp, P'', _, _, pre ++ [b], rfl, rfl, ⟨g8.sm, g8.tu, upd_same, g8.c, g8.pa, g7.sm.free nP'', n8C, n8t, g.tC⟩, ?_, nf_prefix (l := [c, d]) (by simpa using nf)⟩
          refine run.snoc ?_
          rw [el, List.append_assoc]
          exact (Step.here tk).prefix pre
        · rw [if_neg tk] at ep1'
          refine ⟨.list (dInts []), .list (dInts []), .lst (SqL.of ep1') (dp_ints []), .lst (SqL.of ee1) (dp_ints []), shaped_lst [], shaped_lst [], _, rfl, ?_⟩
          rw [eqv_same (shaped_lst [])]
          refine iteF (fin (nf_push nf fun pre' b' c' d' e => ?_) _ s24)
          have e6 : pre' ++ [b', c', d', r] = (pre' ++ [b', c', d']) ++ [r] := by simp
          rw [e6] at e
          obtain ⟨e7, _⟩ := List.append_inj' e rfl
          obtain ⟨_, e8⟩ := List.append_inj' e7 rfl
          injection e8 with h1 h2
          injection h2 with h2 h3
          injection h3 with h3 _
          subst h1 h2 h3
          exact tk
      · have es : plc ((mm ++ [r]).drop ((mm ++ [r]).length - 4)) = [] := plc_short' (by omega)
        rw [es] at ep1'
        refine ⟨.list (dInts []), .list (dInts []), .lst (SqL.of ep1') (dp_ints []), .lst (SqL.of ee1) (dp_ints []), shaped_lst [], shaped_lst [], _, rfl, ?_⟩
        rw [eqv_same (shaped_lst [])]
        refine iteF (fin (nf_push nf fun pre' b' c' d' e => ?_) _ s24)
        have : (mm ++ [r]).length = (pre' ++ [b', c', d', r]).length := by rw [e]
        simp only [List.length_append, List.length_cons, List.length_nil] at this
        omega
    · rintro σ Hx ⟨P', xs, cs, rs, r4, rfl, g, run, nf⟩
      have et2 : (tp ns).take ((tp ns).map V.int).length = tp ns := by rw [List.length_map]; exact List.take_length
      rw [et2] at run
      refine ⟨.ref C, rfl, C, xs, kOf Hx, rfl, SqL.of g.c, (pairs_key g.pa).2, fun ys p h1 h2 np => ?_⟩
      obtain ⟨ds, pd, perm, srt⟩ := sorted_out g.pa h1 h2
      have s2 := same_new (o := .lst ys) np
      refine ⟨.ref P', rfl, by show 2 ≤ sizeLine; decide, fun q nq => ?_⟩
      have s3 := same_new (o := .tup [.ref p, .ref P']) nq
      exact hq _ q p P' ys cs ds rs (g.sm.trans (s2.trans s3)) (g.sm.free (s2.free nq)) upd_same (s3 _ _ upd_same) ((pd.same s2).same s3) perm srt (s3 _ _ (s2 _ _ g.pl)) run nf
end
end UCT

/-! ints in texts, read back; rows of three ints -/
namespace NX
open PySem TL NumText
def tI (i : Int) : Str := toString i
theorem tl_int (i : Int) : tl (tI i) = if i < 0 then 45 :: numL i.natAbs else numL i.natAbs := by
  cases i with
  | ofNat m => exact tl_num m
  | negSucc m =>
    rw [if_pos (Int.negSucc_lt_zero m)]
    show tl (Str.ofString ("-" ++ toString (m + 1))) = 45 :: numL (m + 1)
    rw [tl_ofString, String.toList_append, List.map_append, ← tl_num (m + 1), tl_ofString]
    rfl
theorem sub0 (x y : Str) : Builtin.Str.subAt x y 0 = ((tl x).take y.length == tl y) := by
  rw [PySem.StrLaws.subAt_eq, List.drop_zero]
theorem len1 (c : Nat) : ((⟨#[c]⟩ : Str)).length = 1 := rfl
theorem mi : ("-" : Str) = ⟨#[45]⟩ := by decide +kernel
theorem ze : ("0" : Str) = ⟨#[48]⟩ := by decide +kernel
theorem rp_neg {w : Str} {l : List Nat} (h : tl w = 45 :: l) : tl (Txt.removeprefix w "-") = l := by
  have hl : w.length = l.length + 1 := by rw [len_tl, h]; rfl
  unfold Txt.removeprefix
  rw [mi, sub0, len1, h, if_pos (by rfl)]
  show tl (if (w.length - 1 == w.length) = true then w else Builtin.Str.strSub w 1 w.length) = l
  rw [if_neg (by rw [beq_iff_eq]; omega), tl_strSub_end, h]
  rfl
theorem rp_pos {w : Str} (h : ∀ l, tl w ≠ 45 :: l) : Txt.removeprefix w "-" = w := by
  unfold Txt.removeprefix
  rw [mi, sub0, len1, if_neg]
  · rfl
  · intro z
    have z2 := eq_of_beq z
    cases hw : tl w with
    | nil => rw [hw] at z2; cases z2
    | cons c l =>
      rw [hw] at z2
      have : c = 45 := (List.cons.inj z2).1
      exact h l (by rw [hw, this])
/-- a word that is_numeral takes -/
def isNum (w : Str) : Bool := (Txt.isascii (Txt.removeprefix w "-") && Txt.isdigit (Txt.removeprefix w "-")) && (w == "0" || !Txt.startswith (Txt.removeprefix w "-") "0")
theorem dig_of : ∀ c : _root_.Fin 128, Unicode.isDigit c.val = (decide (48 ≤ c.val) && decide (c.val ≤ 57)) := by decide +kernel
theorem asc {d : Str} : Txt.isascii d = true ↔ ∀ c ∈ tl d, c < 128 := by
  unfold Txt.isascii
  rw [← Array.all_toList, List.all_eq_true]
  constructor
  · intro h c hc; exact of_decide_eq_true (h c hc)
  · intro h c hc; exact decide_eq_true (h c hc)
theorem both_dig {d : Str} : (Txt.isascii d && Txt.isdigit d) = true ↔ AllDigits (tl d) ∧ tl d ≠ [] := by
  rw [Bool.and_eq_true, asc]
  unfold Txt.isdigit
  rw [Bool.and_eq_true, ← Array.all_toList, List.all_eq_true, decide_eq_true_eq, len_tl]
  constructor
  · rintro ⟨h1, h2, h3⟩
    refine ⟨fun c hc => ?_, fun z => by rw [z] at h2; exact absurd h2 (by decide)⟩
    have := h3 c hc
    rw [dig_of ⟨c, h1 c hc⟩, Bool.and_eq_true, decide_eq_true_eq, decide_eq_true_eq] at this
    exact this
  · rintro ⟨h1, h2⟩
    refine ⟨fun c hc => by have := h1 c hc; omega, ?_, fun c hc => ?_⟩
    · cases hd : tl d with
      | nil => exact absurd hd h2
      | cons _ _ => exact Nat.succ_pos _
    · have := h1 c hc
      rw [dig_of ⟨c, by omega⟩, decide_eq_true this.1, decide_eq_true this.2]
      rfl
theorem num_head (n : Nat) (h : 0 < n) : ∃ c l, numL n = c :: l ∧ c ≠ 48 := by
  induction n using Nat.strongRecOn with
  | _ n ih =>
    by_cases k : n < 10
    · exact ⟨48 + n, [], numL_lt k, by omega⟩
    · obtain ⟨c, l, e, hc⟩ := ih (n / 10) (by omega) (by omega)
      exact ⟨c, l ++ [48 + n % 10], by rw [numL_step (by omega), e]; rfl, hc⟩
theorem starts0 {d : Str} {c : Nat} {l : List Nat} (h : tl d = c :: l) (hc : c ≠ 48) : Txt.startswith d "0" = false := by
  unfold Txt.startswith
  rw [ze, sub0, len1, h]
  have : ([c] == [48]) = false := by rw [beq_eq_false_iff_ne]; intro z; exact hc (List.cons.inj z).1
  show (_ && ((c :: l).take 1 == [48])) = false
  rw [show (c :: l).take 1 = [c] from rfl, this, Bool.and_false]
theorem dig_ne {n : Nat} : ∀ l, numL n ≠ 45 :: l := fun l z => by
  have := numL_digits n 45 (by rw [z]; exact List.mem_cons_self)
  omega
theorem rp_int (n : Int) : tl (Txt.removeprefix (tI n) "-") = numL n.natAbs := by
  have h := tl_int n
  by_cases c : n < 0
  · rw [if_pos c] at h; exact rp_neg h
  · rw [if_neg c] at h
    rw [rp_pos (by rw [h]; exact dig_ne), h]
theorem isNum_int (n : Int) : isNum (tI n) = true := by
  unfold isNum
  have h := rp_int n
  rw [both_dig.mpr (by rw [h]; exact ⟨numL_digits _, numL_ne _⟩), Bool.true_and]
  by_cases z : n = 0
  · subst z; decide +kernel
  · obtain ⟨c, l, e, hc⟩ := num_head n.natAbs (by omega)
    rw [starts0 (h.trans e) hc]
    exact Bool.or_true _
theorem len_int {n : Int} (h : n.natAbs ≤ 1000000000) : (tI n).length ≤ 11 := by
  have := numL_len (n := n.natAbs) (k := 10) (by decide) (Nat.lt_of_le_of_lt h (by decide))
  rw [len_tl, tl_int]
  split
  · rw [List.length_cons]; omega
  · omega
theorem read_int {n : Int} (h : n.natAbs ≤ 1000000000) : intText? (tI n) = some n := by
  have hl := len_int h
  have ht := tl_int n
  by_cases c : n < 0
  · rw [if_pos c] at ht
    have e := intText_neg (x := tI n) ht (numL_digits _) (numL_ne _) (by omega)
    rw [e, numL_val]
    congr 1
    omega
  · rw [if_neg c] at ht
    have e := intText_digits (x := tI n) (by show AllDigits (tl (tI n)); rw [ht]; exact numL_digits _) (by show tl (tI n) ≠ []; rw [ht]; exact numL_ne _) (by omega)
    rw [e]
    show some ((digitsVal (tl (tI n)) : Nat) : Int) = _
    rw [ht, numL_val]
    congr 1
    omega
/-- a numeral can be read -/
theorem num_reads {w : Str} (h : isNum w = true) (hl : w.length ≤ 4300) : ∃ n, intText? w = some n := by
  unfold isNum at h
  rw [Bool.and_eq_true] at h
  obtain ⟨h1, h2⟩ := both_dig.mp h.1
  by_cases c : ∃ l, tl w = 45 :: l
  · obtain ⟨l, e⟩ := c
    rw [rp_neg e] at h1 h2
    exact ⟨_, intText_neg e h1 h2 hl⟩
  · rw [rp_pos (fun l z => c ⟨l, z⟩)] at h1 h2
    exact ⟨_, intText_digits h1 h2 hl⟩
/-- what reading_of tells -/
def rdw (w : Str) : Option Int := if 11 < w.length || !isNum w then none else match intText? w with
  | some n => if n.natAbs ≤ 1000000000 then some n else none
  | none => none
theorem rdw_int {n : Int} (h : n.natAbs ≤ 1000000000) : rdw (tI n) = some n := by
  unfold rdw
  rw [isNum_int n, decide_eq_false (show ¬ 11 < (tI n).length by have := len_int h; omega)]
  show (match intText? (tI n) with | some n => if n.natAbs ≤ 1000000000 then some n else none | none => none) = _
  rw [read_int h]
  exact if_pos h
abbrev Ent := Int × Int × Int
def okE (a b c : Int) : Bool := !(decide (b ≤ a) || (decide (c < 0) || decide (1000000 < c)))
/-- what entry_of tells -/
def entw (ws : List Str) : Option Ent := match ws.map rdw with
  | [some a, some b, some c] => if okE a b c then some (a, b, c) else none
  | _ => none
structure Val (e : Ent) : Prop where
  lo : e.1.natAbs ≤ 1000000000
  hi : e.2.1.natAbs ≤ 1000000000
  lt : e.1 < e.2.1
  am : 0 ≤ e.2.2
  le : e.2.2 ≤ 1000000
theorem Val.ok {e : Ent} (h : Val e) : okE e.1 e.2.1 e.2.2 = true := by
  unfold okE
  rw [decide_eq_false (by have := h.lt; omega), decide_eq_false (by have := h.am; omega), decide_eq_false (by have := h.le; omega)]
  rfl
def wds (e : Ent) : List Str := [tI e.1, tI e.2.1, tI e.2.2]
theorem entw_of {e : Ent} (h : Val e) : entw (wds e) = some e := by
  unfold entw wds
  have h3 : e.2.2.natAbs ≤ 1000000000 := by have := h.am; have := h.le; omega
  show (match [rdw (tI e.1), rdw (tI e.2.1), rdw (tI e.2.2)] with | [some a, some b, some c] => if okE a b c then some (a, b, c) else none | _ => none) = _
  rw [rdw_int h.lo, rdw_int h.hi, rdw_int h3]
  show (if okE e.1 e.2.1 e.2.2 then some (e.1, e.2.1, e.2.2) else none) = _
  rw [h.ok]
  rfl
def row (e : Ent) : Str := Txt.join " " (wds e)
def txt (T : List Ent) : Str := Txt.join "\n" (T.map row)
theorem blk : tl (" " : Str) = [32] := by decide +kernel
theorem nlk : tl ("\n" : Str) = [10] := by decide +kernel
theorem int_signs {n : Int} {c : Nat} (h : c ∈ tl (tI n)) : c = 45 ∨ (48 ≤ c ∧ c ≤ 57) := by
  rw [tl_int] at h
  split at h
  · rcases List.mem_cons.mp h with e | e
    · exact .inl e
    · exact .inr (numL_digits _ c e)
  · exact .inr (numL_digits _ c h)
theorem split_row (e : Ent) : Txt.split (row e) " " = wds e := by
  refine split_join (s := 32) (S := []) blk (by decide +kernel) (by unfold wds; simp) fun p hp z => ?_
  unfold wds at hp
  simp only [List.mem_cons, List.not_mem_nil, or_false] at hp
  rcases hp with rfl | rfl | rfl <;> (have := int_signs z; omega)
theorem mem_joinL {S : List Nat} {c : Nat} : ∀ {ps : List (List Nat)}, c ∈ joinL S ps → c ∈ S ∨ ∃ p ∈ ps, c ∈ p
  | [], h => (List.not_mem_nil h).elim
  | [p], h => .inr ⟨p, List.mem_singleton.mpr rfl, h⟩
  | p :: q :: r, h => by
    rcases List.mem_append.mp (show c ∈ p ++ (S ++ joinL S (q :: r)) from h) with h | h
    · exact .inr ⟨p, List.mem_cons_self, h⟩
    rcases List.mem_append.mp h with h | h
    · exact .inl h
    · rcases mem_joinL h with h | ⟨x, hx, h⟩
      · exact .inl h
      · exact .inr ⟨x, List.mem_cons_of_mem _ hx, h⟩
theorem row_signs {e : Ent} {c : Nat} (h : c ∈ tl (row e)) : c = 32 ∨ c = 45 ∨ (48 ≤ c ∧ c ≤ 57) := by
  unfold row at h
  rw [join_eq, tl_join, blk] at h
  rcases mem_joinL h with h | ⟨p, hp, h⟩
  · exact .inl (List.mem_singleton.mp h)
  · obtain ⟨x, hx, rfl⟩ := List.mem_map.mp hp
    unfold wds at hx
    simp only [List.mem_cons, List.not_mem_nil, or_false] at hx
    rcases hx with rfl | rfl | rfl <;> exact .inr (int_signs h)
theorem split_txt {T : List Ent} (h : T ≠ []) : Txt.split (txt T) "\n" = T.map row :=
  split_join (s := 10) (S := []) nlk (by decide +kernel) (fun z => h (List.map_eq_nil_iff.mp z)) fun p hp z => by
    obtain ⟨e, _, rfl⟩ := List.mem_map.mp hp
    have := row_signs z
    omega
theorem row_tl (e : Ent) : tl (row e) = tl (tI e.1) ++ (32 :: (tl (tI e.2.1) ++ (32 :: tl (tI e.2.2)))) := by
  unfold row wds
  rw [join_eq, tl_join, blk]
  rfl
theorem row_form (e : Ent) : ((((Str.empty ++ tI e.1) ++ " ") ++ tI e.2.1) ++ " ") ++ tI e.2.2 = row e := by
  refine ext_tl ?_
  rw [row_tl, tl_append, tl_append, tl_append, tl_append, tl_append, blk]
  show (((([] ++ tl (tI e.1)) ++ [32]) ++ tl (tI e.2.1)) ++ [32]) ++ tl (tI e.2.2) = _
  rw [List.nil_append, List.append_assoc, List.append_assoc, List.append_assoc]
  rfl
theorem txt_nil : txt [] = "" := by decide +kernel
theorem row_ne (e : Ent) : tl (row e) ≠ [] := by
  rw [row_tl]
  intro z
  have := (List.append_eq_nil_iff.mp z).2
  cases this
theorem txt_ne {T : List Ent} (h : T ≠ []) : txt T ≠ "" := by
  cases T with
  | nil => exact absurd rfl h
  | cons e es =>
    intro z
    have := congrArg tl z
    unfold txt at this
    rw [join_eq, tl_join] at this
    cases es with
    | nil => exact row_ne e this
    | cons f fs =>
      have t2 : tl (row e) ++ (tl ("\n" : Str) ++ joinL (tl "\n") ((row f :: fs.map row).map tl)) = [] := this
      exact row_ne e (List.append_eq_nil_iff.mp t2).1
theorem rows_back : ∀ {T : List Ent}, (∀ e ∈ T, Val e) → (T.map row).map (fun r => entw (Txt.split r " ")) = T.map some
  | [], _ => rfl
  | e :: es, h => by
    rw [List.map_cons, List.map_cons, List.map_cons, split_row, entw_of (h e List.mem_cons_self), rows_back fun x hx => h x (List.mem_cons_of_mem _ hx)]
theorem txt_inj {T U : List Ent} (h : ∀ e ∈ T, Val e) (g : ∀ e ∈ U, Val e) (k : txt T = txt U) : T = U := by
  by_cases hT : T = []
  · by_cases hU : U = []
    · rw [hT, hU]
    · rw [hT, txt_nil] at k; exact absurd k.symm (txt_ne hU)
  · by_cases hU : U = []
    · rw [hU, txt_nil] at k; exact absurd k (txt_ne hT)
    · have e1 := split_txt hT
      rw [k, split_txt hU] at e1
      have e2 := rows_back h
      rw [← e1, rows_back g] at e2
      exact ((List.map_inj_right fun a b z => Option.some.inj z).mp e2).symm
end NX

/-! texts split and joined again; words that are numerals; the table that a text is of -/
namespace NY
open PySem TL NumText NX
/-- one sign as a separator -/
theorem joinL_cons {S p : List Nat} {L : List (List Nat)} (h : L ≠ []) : joinL S (p :: L) = p ++ (S ++ joinL S L) := by
  cases L with
  | nil => exact absurd rfl h
  | cons q r => rfl
theorem pre1 (s c : Nat) (r : List Nat) : pre [s] (c :: r) = decide (c = s) := by
  unfold pre
  show ([c] == [s]) = _
  by_cases e : c = s
  · rw [e, decide_eq_true rfl]; exact beq_self_eq_true _
  · rw [decide_eq_false e]; exact beq_eq_false_iff_ne.mpr fun z => e (List.cons.inj z).1
theorem spl_ne (s : Nat) : ∀ (l acc : List Nat), spl [s] 0 acc l ≠ []
  | [], acc => by rw [spl_nil]; simp
  | c :: r, acc => by
    by_cases e : c = s
    · rw [spl_hit (by rw [pre1]; exact decide_eq_true e)]; simp
    · rw [spl_miss (by rw [pre1]; exact decide_eq_false e)]; exact spl_ne s r _
theorem joinL_spl (s : Nat) : ∀ (l acc : List Nat), joinL [s] (spl [s] 0 acc l) = acc ++ l
  | [], acc => by rw [spl_nil, List.append_nil]; rfl
  | c :: r, acc => by
    by_cases e : c = s
    · rw [spl_hit (by rw [pre1]; exact decide_eq_true e)]
      show joinL [s] (acc :: spl [s] 0 [] r) = _
      rw [joinL_cons (spl_ne s r []), joinL_spl s r [], e]
      rfl
    · rw [spl_miss (by rw [pre1]; exact decide_eq_false e), joinL_spl s r (acc ++ [c]), List.append_assoc]
      rfl
theorem spl_count (s : Nat) : ∀ (l acc : List Nat), (spl [s] 0 acc l).length ≤ l.length + 1
  | [], acc => by rw [spl_nil]; exact Nat.le_refl _
  | c :: r, acc => by
    by_cases e : c = s
    · rw [spl_hit (by rw [pre1]; exact decide_eq_true e)]
      have := spl_count s r []
      show (spl [s] 0 [] r).length + 1 ≤ _
      rw [List.length_cons]; omega
    · rw [spl_miss (by rw [pre1]; exact decide_eq_false e)]
      have := spl_count s r (acc ++ [c])
      rw [List.length_cons]; omega
theorem spl_part (s : Nat) : ∀ (l acc : List Nat), ∀ p ∈ spl [s] 0 acc l, p.length ≤ acc.length + l.length
  | [], acc, p, h => by rw [spl_nil, List.mem_singleton] at h; rw [h]; exact Nat.le_refl _
  | c :: r, acc, p, h => by
    by_cases e : c = s
    · rw [spl_hit (by rw [pre1]; exact decide_eq_true e)] at h
      rcases List.mem_cons.mp h with h | h
      · rw [h]; exact Nat.le_add_right _ _
      · have := spl_part s r [] p h
        rw [List.length_cons]
        have e0 : ([] : List Nat).length = 0 := rfl
        omega
    · rw [spl_miss (by rw [pre1]; exact decide_eq_false e)] at h
      have := spl_part s r (acc ++ [c]) p h
      rw [List.length_append, List.length_singleton] at this
      rw [List.length_cons]; omega
section
variable {y : Str} {s : Nat}
theorem split_map (ey : tl y = [s]) (hk : y.cps.all (· < 256) = true) (x : Str) : (Txt.split x y).map tl = spl [s] 0 [] (tl x) := by
  rw [split_spl x y (by rw [ey]; simp) (kind_ok hk), ey]
theorem join_split (ey : tl y = [s]) (hk : y.cps.all (· < 256) = true) (x : Str) : Txt.join y (Txt.split x y) = x := by
  refine ext_tl ?_
  rw [join_eq, tl_join, split_map ey hk, ey, joinL_spl]
  rfl
theorem split_count (ey : tl y = [s]) (hk : y.cps.all (· < 256) = true) (x : Str) : (Txt.split x y).length ≤ x.length + 1 := by
  have := spl_count s (tl x) []
  rw [← split_map ey hk, List.length_map, ← len_tl] at this
  exact this
theorem split_part (ey : tl y = [s]) (hk : y.cps.all (· < 256) = true) (x : Str) : ∀ p ∈ Txt.split x y, p.length ≤ x.length := fun p hp => by
  have := spl_part s (tl x) [] (tl p) (by rw [← split_map ey hk]; exact List.mem_map.mpr ⟨p, hp, rfl⟩)
  rw [len_tl, len_tl x]
  have e0 : ([] : List Nat).length = 0 := rfl
  omega
end
/-! ### words -/
theorem digitsVal_snoc (cs : List Nat) (c : Nat) : digitsVal (cs ++ [c]) = digitsVal cs * 10 + (c - 48) := by
  unfold digitsVal
  rw [List.foldl_append]
  rfl
theorem val_pos {c : Nat} {l : List Nat} (h : AllDigits (c :: l)) (hc : c ≠ 48) : 0 < digitsVal (c :: l) := by
  have h0 := h c List.mem_cons_self
  have gen : ∀ (l : List Nat) (a : Nat), 0 < a → 0 < l.foldl (fun acc c => acc * 10 + (c - 48)) a := by
    intro l
    induction l with
    | nil => intro a h; exact h
    | cons d l ih => intro a h; exact ih _ (by show 0 < a * 10 + _; omega)
  show 0 < l.foldl (fun acc c => acc * 10 + (c - 48)) (0 * 10 + (c - 48))
  exact gen l _ (by omega)
/-- digits without a leading zero are those of their number -/
theorem numL_of : ∀ (n : Nat) (cs : List Nat), cs.length = n → AllDigits cs → cs ≠ [] → (cs = [48] ∨ cs.head? ≠ some 48) → numL (digitsVal cs) = cs := by
  intro n
  induction n with
  | zero => intro cs hl _ hne; exact absurd (List.length_eq_zero_iff.mp hl) hne
  | succ n ih =>
    intro cs hl hd hne hz
    rcases List.eq_nil_or_concat cs with e | ⟨ds, c, e⟩
    · exact absurd e hne
    rw [List.concat_eq_append] at e
    subst e
    have hc := hd c (by simp)
    rw [digitsVal_snoc]
    cases ds with
    | nil =>
      show numL (0 * 10 + (c - 48)) = [c]
      rw [numL_lt (by omega)]
      congr 1
      omega
    | cons d ds =>
      have hd2 : AllDigits (d :: ds) := fun x hx => hd x (List.mem_append_left _ hx)
      have h48 : d ≠ 48 := by
        rcases hz with z | z
        · have := congrArg List.length z
          simp at this
        · intro k; exact z (by rw [k]; rfl)
      have hp := val_pos hd2 h48
      have hl2 : (d :: ds).length = n := by
        rw [List.length_append, List.length_singleton] at hl
        omega
      have e := ih (d :: ds) hl2 hd2 (by simp) (.inr (by intro k; exact h48 (Option.some.inj k)))
      rw [numL_step (by omega)]
      rw [show (digitsVal (d :: ds) * 10 + (c - 48)) / 10 = digitsVal (d :: ds) by omega, e]
      congr 1
      congr 1
      omega
theorem starts_iff {d : Str} (hne : tl d ≠ []) : Txt.startswith d "0" = decide ((tl d).head? = some 48) := by
  cases hd : tl d with
  | nil => exact absurd hd hne
  | cons c l =>
    by_cases e : c = 48
    · rw [decide_eq_true (by rw [e]; rfl)]
      unfold Txt.startswith
      rw [ze, sub0, NX.len1, hd, e]
      have : decide (0 + 1 ≤ d.length) = true := decide_eq_true (by rw [len_tl, hd]; show 0 + 1 ≤ l.length + 1; omega)
      rw [this]
      rfl
    · rw [decide_eq_false (by intro z; exact e (Option.some.inj z)), starts0 hd e]
/-- a numeral is the text of the int that it writes -/
theorem num_back {w : Str} (h : isNum w = true) (hl : w.length ≤ 4300) : ∃ n, intText? w = some n ∧ w = tI n := by
  unfold isNum at h
  rw [Bool.and_eq_true] at h
  obtain ⟨h0, hz⟩ := h
  obtain ⟨h1, h2⟩ := both_dig.mp h0
  by_cases c : ∃ l, tl w = 45 :: l
  · obtain ⟨l, e⟩ := c
    have er := rp_neg e
    have hw : (w == "0") = false := by
      rw [beq_eq_false_iff_ne]
      intro z
      rw [z, ze] at e
      cases e
    rw [hw, Bool.false_or, starts_iff h2, er] at hz
    rw [er] at h1 h2
    have hz2 : l.head? ≠ some 48 := by simpa using hz
    refine ⟨_, intText_neg e h1 h2 hl, ext_tl ?_⟩
    have e3 := numL_of l.length l rfl h1 h2 (.inr hz2)
    have hpos : 0 < digitsVal l := by
      cases l with
      | nil => exact absurd rfl h2
      | cons c r => exact val_pos h1 fun k => hz2 (by rw [k]; rfl)
    rw [tl_int, if_pos (by omega), Int.natAbs_neg, Int.natAbs_natCast, e3, e]
  · have er := rp_pos (w := w) fun l z => c ⟨l, z⟩
    rw [er] at h1 h2 hz
    refine ⟨_, intText_digits h1 h2 hl, ext_tl ?_⟩
    have hz2 : tl w = [48] ∨ (tl w).head? ≠ some 48 := by
      by_cases k : (w == "0") = true
      · left
        rw [eq_of_beq k, ze]
      · right
        rw [Bool.not_eq_true] at k
        rw [k, Bool.false_or, starts_iff h2] at hz
        simpa using hz
    have e3 := numL_of (tl w).length (tl w) rfl h1 h2 hz2
    rw [tl_int, if_neg (by omega), Int.natAbs_natCast]
    exact e3.symm
theorem rdw_back {w : Str} {n : Int} (h : rdw w = some n) : w = tI n ∧ n.natAbs ≤ 1000000000 := by
  unfold rdw at h
  by_cases c : (decide (11 < w.length) || !isNum w) = true
  · rw [if_pos c] at h; cases h
  · rw [if_neg c] at h
    rw [Bool.not_eq_true, Bool.or_eq_false_iff] at c
    obtain ⟨c1, c2⟩ := c
    have hl : w.length ≤ 11 := by have := of_decide_eq_false c1; omega
    obtain ⟨m, e1, e2⟩ := num_back (w := w) (by simpa using c2) (by omega)
    rw [e1] at h
    by_cases b : m.natAbs ≤ 1000000000
    · have h2 : (if m.natAbs ≤ 1000000000 then some m else none) = some n := h
      rw [if_pos b] at h2
      cases h2
      exact ⟨e2, b⟩
    · have h2 : (if m.natAbs ≤ 1000000000 then some m else none) = some n := h
      rw [if_neg b] at h2
      cases h2
theorem entw_back {ws : List Str} {e : Ent} (h : entw ws = some e) : ws = wds e ∧ Val e := by
  match ws with
  | [] => cases h
  | [_] => unfold entw at h; simp at h
  | [_, _] => unfold entw at h; simp at h
  | _ :: _ :: _ :: _ :: _ => unfold entw at h; simp at h
  | [u, v, w] =>
    unfold entw at h
    have h2 : (match [rdw u, rdw v, rdw w] with | [some a, some b, some c] => if okE a b c = true then some (a, b, c) else none | _ => none) = some e := h
    cases e1 : rdw u with
    | none => rw [e1] at h2; cases h2
    | some a =>
      cases e2 : rdw v with
      | none => rw [e1, e2] at h2; cases h2
      | some b =>
        cases e3 : rdw w with
        | none => rw [e1, e2, e3] at h2; cases h2
        | some c =>
          rw [e1, e2, e3] at h2
          have h3 : (if okE a b c = true then some (a, b, c) else none) = some e := h2
          cases k : okE a b c with
          | false => rw [k] at h3; cases h3
          | true =>
            rw [k, if_pos rfl] at h3
            cases h3
            obtain ⟨x1, y1⟩ := rdw_back e1
            obtain ⟨x2, y2⟩ := rdw_back e2
            obtain ⟨x3, y3⟩ := rdw_back e3
            unfold okE at k
            simp only [Bool.not_eq_true', Bool.or_eq_false_iff, decide_eq_false_iff_not] at k
            refine ⟨by unfold wds; rw [x1, x2, x3], ⟨y1, y2, ?_, ?_, ?_⟩⟩
            · show a < b; omega
            · show 0 ≤ c; omega
            · show c ≤ 1000000; omega
theorem row_back {r : Str} {e : Ent} (h : entw (Txt.split r " ") = some e) : r = row e ∧ Val e := by
  obtain ⟨h1, h2⟩ := entw_back h
  refine ⟨?_, h2⟩
  unfold row
  rw [← h1, join_split blk (by decide +kernel)]
/-- the rows of a text, each with its entry -/
def rows (x : Str) : List Str := if x = "" then [] else Txt.split x "\n"
def ents (x : Str) : List (Option Ent) := (rows x).map fun r => entw (Txt.split r " ")
theorem ents_back {x : Str} {es : List Ent} (h : ents x = es.map some) : x = txt es ∧ ∀ e ∈ es, Val e := by
  have gen : ∀ (rs : List Str) (es : List Ent), (rs.map fun r => entw (Txt.split r " ")) = es.map some → rs = es.map row ∧ ∀ e ∈ es, Val e := by
    intro rs
    induction rs with
    | nil => intro es h; cases es with
      | nil => exact ⟨rfl, fun _ z => (List.not_mem_nil z).elim⟩
      | cons _ _ => cases h
    | cons r rs ih => intro es h; cases es with
      | nil => cases h
      | cons e es =>
        rw [List.map_cons, List.map_cons, List.cons.injEq] at h
        obtain ⟨a1, a2⟩ := row_back h.1
        obtain ⟨b1, b2⟩ := ih es h.2
        refine ⟨by rw [List.map_cons, ← a1, ← b1], fun x hx => ?_⟩
        rcases List.mem_cons.mp hx with z | z
        · rw [z]; exact a2
        · exact b2 x z
  obtain ⟨h1, h2⟩ := gen _ _ h
  refine ⟨?_, h2⟩
  unfold rows at h1
  by_cases c : x = ""
  · rw [if_pos c] at h1
    have : es = [] := List.map_eq_nil_iff.mp h1.symm
    rw [this, c, txt_nil]
  · rw [if_neg c] at h1
    unfold txt
    rw [← h1, join_split nlk (by decide +kernel)]
end NY

/-! texts of counts: cycles and points, written and read -/
namespace NZ
open PySem TL NumText NX NY
theorem col : tl (":" : Str) = [58] := by decide +kernel
theorem colk : (":" : Str).cps.all (· < 256) = true := by decide +kernel
theorem blkk : (" " : Str).cps.all (· < 256) = true := by decide +kernel
theorem nlkk : ("\n" : Str).cps.all (· < 256) = true := by decide +kernel
/-- a reading of a text: what a word tells when it has one sign of none of the digits -/
theorem rdw_bad {w : Str} {c : Nat} (h : c ∈ tl w) (h1 : c ≠ 45) (h2 : ¬ (48 ≤ c ∧ c ≤ 57)) : rdw w = none := by
  cases k : rdw w with
  | none => rfl
  | some n =>
    obtain ⟨rfl, _⟩ := rdw_back k
    rcases int_signs h with e | e
    · exact absurd e h1
    · exact absurd e h2
theorem rdw_empty : rdw "" = none := by
  cases k : rdw "" with
  | none => rfl
  | some n =>
    obtain ⟨e, _⟩ := rdw_back k
    have := congrArg tl e
    rw [tl_int] at this
    split at this
    · cases this
    · exact absurd this.symm (numL_ne _)
def par2 : Option Int → Option Int → Option (Int × Int)
  | some a, some b => if a < b then some (a, b) else none
  | _, _ => none
theorem par2_none (a : Option Int) : par2 a none = none := by cases a <;> rfl
theorem par2_some {a b : Option Int} {r : Int × Int} (h : par2 a b = some r) : a = some r.1 ∧ b = some r.2 ∧ r.1 < r.2 := by
  cases a with
  | none => cases h
  | some x =>
    cases b with
    | none => cases h
    | some y =>
      have h2 : (if x < y then some (x, y) else none) = some r := h
      by_cases k : x < y
      · rw [if_pos k] at h2
        cases h2
        exact ⟨rfl, rfl, k⟩
      · rw [if_neg k] at h2
        cases h2
theorem tls_inj : ∀ {xs ys : List Str}, xs.map tl = ys.map tl → xs = ys
  | [], [], _ => rfl
  | [], _ :: _, h => by cases h
  | _ :: _, [], h => by cases h
  | x :: xs, y :: ys, h => by
    rw [List.map_cons, List.map_cons] at h
    obtain ⟨h1, h2⟩ := List.cons.inj h
    rw [ext_tl h1, tls_inj h2]
/-- the range that a word writes: cut at its first colon -/
def cyw (w : Str) : Option (Int × Int) := par2 (rdw (Txt.partition w ":").1) (rdw (Txt.partition w ":").2.2)
/-- the same by all its parts -/
def cys (os : List (Option Int)) : Option (Int × Int) := match os with
  | [a, b] => par2 a b
  | _ => none
theorem has_one {s : Nat} : ∀ {l : List Nat}, s ∈ l → ∃ a b, l = a ++ s :: b ∧ s ∉ a
  | [], h => (List.not_mem_nil h).elim
  | c :: l, h => by
    by_cases e : c = s
    · exact ⟨[], l, by rw [e]; rfl, List.not_mem_nil⟩
    · rcases List.mem_cons.mp h with k | k
      · exact absurd k.symm e
      · obtain ⟨a, b, h1, h2⟩ := has_one k
        exact ⟨c :: a, b, by rw [h1]; rfl, fun z => (List.mem_cons.mp z).elim (fun q => e q.symm) h2⟩
theorem has_col {w : Str} (h : 58 ∈ tl w) : ∃ a b : Str, w = a ++ ":" ++ b ∧ 58 ∉ tl a := by
  obtain ⟨a, b, h1, h2⟩ := has_one h
  refine ⟨⟨a.toArray⟩, ⟨b.toArray⟩, ext_tl ?_, h2⟩
  rw [tl_append, tl_append, col, h1]
  show a ++ 58 :: b = (a ++ [58]) ++ b
  rw [List.append_assoc]
  rfl
theorem cyw_cys (w : Str) : cyw w = cys ((Txt.split w ":").map rdw) := by
  by_cases h : 58 ∈ tl w
  · obtain ⟨a, b, rfl, ha⟩ := has_col h
    have e1 : Txt.partition (a ++ ":" ++ b) ":" = (a, (":" : Str), b) := partition_app col ha
    have e2 : Txt.split (a ++ ":" ++ b) ":" = a :: Txt.split b ":" := by
      refine tls_inj ?_
      rw [split_map col colk, List.map_cons, split_map col colk, tl_append, tl_append, col, List.append_assoc]
      exact spl_part1 (S := []) (acc := []) ha
    unfold cyw
    rw [e1, e2]
    show par2 (rdw a) (rdw b) = _
    by_cases hb : 58 ∈ tl b
    · rw [rdw_bad hb (by decide) (by decide), par2_none]
      obtain ⟨c, d, rfl, hc⟩ := has_col hb
      have e3 : Txt.split (c ++ ":" ++ d) ":" = c :: Txt.split d ":" := by
        refine tls_inj ?_
        rw [split_map col colk, List.map_cons, split_map col colk, tl_append, tl_append, col, List.append_assoc]
        exact spl_part1 (S := []) (acc := []) hc
      rw [e3]
      cases e4 : Txt.split d ":" with
      | nil =>
        have := split_map col colk d
        rw [e4] at this
        exact absurd this.symm (spl_ne 58 _ _)
      | cons x xs => rfl
    · have e3 : Txt.split b ":" = [b] := by
        refine tls_inj ?_
        rw [split_map col colk]
        exact spl_last1 (S := []) (acc := []) hb
      rw [e3]
      rfl
  · have e1 : Txt.partition w ":" = (w, Str.empty, Str.empty) := partition_none col h
    have e2 : Txt.split w ":" = [w] := by
      refine tls_inj ?_
      rw [split_map col colk]
      exact spl_last1 (S := []) (acc := []) h
    unfold cyw
    rw [e1, e2]
    show par2 (rdw w) (rdw Str.empty) = none
    have : rdw Str.empty = none := rdw_empty
    rw [this, par2_none]
theorem part_len (w : Str) : (Txt.partition w ":").1.length ≤ w.length ∧ (Txt.partition w ":").2.2.length ≤ w.length := by
  by_cases hc : 58 ∈ tl w
  · obtain ⟨a, b, rfl, ha⟩ := has_col hc
    have e1 : Txt.partition (a ++ ":" ++ b) ":" = (a, (":" : Str), b) := partition_app col ha
    rw [e1]
    show a.length ≤ _ ∧ b.length ≤ _
    rw [len_tl (a ++ ":" ++ b), tl_append, tl_append, List.length_append, List.length_append, ← len_tl, ← len_tl b]
    omega
  · have e1 : Txt.partition w ":" = (w, Str.empty, Str.empty) := partition_none col hc
    rw [e1]
    exact ⟨Nat.le_refl _, Nat.zero_le _⟩
/-- the text of a range -/
def cw (r : Int × Int) : Str := tI r.1 ++ ":" ++ tI r.2
def OkC (r : Int × Int) : Prop := r.1 < r.2 ∧ r.1.natAbs ≤ 1000000000 ∧ r.2.natAbs ≤ 1000000000
theorem int_col (n : Int) : 58 ∉ tl (tI n) := fun z => by have := int_signs z; omega
theorem cyw_of {r : Int × Int} (h : OkC r) : cyw (cw r) = some r := by
  obtain ⟨h1, h2, h3⟩ := h
  have e1 : Txt.partition (tI r.1 ++ ":" ++ tI r.2) ":" = (tI r.1, (":" : Str), tI r.2) := partition_app col (int_col _)
  unfold cyw cw
  rw [e1]
  show par2 (rdw (tI r.1)) (rdw (tI r.2)) = _
  rw [rdw_int h2, rdw_int h3]
  exact if_pos h1
theorem cyw_back {w : Str} {r : Int × Int} (h : cyw w = some r) : w = cw r ∧ OkC r := by
  unfold cyw at h
  obtain ⟨h1, h2, h3⟩ := par2_some h
  by_cases hc : 58 ∈ tl w
  · obtain ⟨a, b, rfl, ha⟩ := has_col hc
    have e1 : Txt.partition (a ++ ":" ++ b) ":" = (a, (":" : Str), b) := partition_app col ha
    rw [e1] at h1 h2
    obtain ⟨x1, y1⟩ := rdw_back h1
    obtain ⟨x2, y2⟩ := rdw_back h2
    exact ⟨by unfold cw; rw [← x1, ← x2], h3, y1, y2⟩
  · have e1 : Txt.partition w ":" = (w, Str.empty, Str.empty) := partition_none col hc
    rw [e1] at h2
    have : rdw Str.empty = none := rdw_empty
    exact absurd (h2.symm.trans this) (by simp)
theorem cw_signs {r : Int × Int} {c : Nat} (h : c ∈ tl (cw r)) : c = 45 ∨ (48 ≤ c ∧ c ≤ 58) := by
  unfold cw at h
  rw [tl_append, tl_append, col] at h
  rcases List.mem_append.mp h with h | h
  · rcases List.mem_append.mp h with h | h
    · have := int_signs h; omega
    · have := List.mem_singleton.mp h; omega
  · have := int_signs h; omega
/-! rows -/
def cyr (r : Str) : List (Option (Int × Int)) := if r = "none" then [] else (Txt.split r " ").map cyw
def rsr (r : Str) : List (Option Int) := if r = "none" then [] else (Txt.split r " ").map rdw
def rowC (cs : List (Int × Int)) : Str := if cs = [] then "none" else Txt.join " " (cs.map cw)
def rowP (rs : List Int) : Str := if rs = [] then "none" else Txt.join " " (rs.map tI)
theorem none_has : 110 ∈ tl ("none" : Str) := by decide +kernel
theorem join_ne {ws : List Str} (hw : ∀ x ∈ ws, 110 ∉ tl x) : Txt.join " " ws ≠ "none" := fun z => by
  have h := none_has
  rw [← z, join_eq, tl_join, blk] at h
  rcases mem_joinL h with h | ⟨p, hp, h⟩
  · have := List.mem_singleton.mp h; omega
  · obtain ⟨x, hx, rfl⟩ := List.mem_map.mp hp
    exact hw x hx h
theorem split_words {ws : List Str} (hne : ws ≠ []) (hw : ∀ x ∈ ws, 32 ∉ tl x) : Txt.split (Txt.join " " ws) " " = ws :=
  split_join (s := 32) (S := []) blk blkk hne hw
theorem map_back {α : Type} {f : Str → Option α} {g : α → Str} {Ok : α → Prop} (hb : ∀ w r, f w = some r → w = g r ∧ Ok r) : ∀ {ws : List Str} {rs : List α}, ws.map f = rs.map some → ws = rs.map g ∧ ∀ r ∈ rs, Ok r
  | [], [], _ => ⟨rfl, fun _ h => (List.not_mem_nil h).elim⟩
  | [], _ :: _, h => by cases h
  | _ :: _, [], h => by cases h
  | w :: ws, r :: rs, h => by
    rw [List.map_cons, List.map_cons] at h
    obtain ⟨h1, h2⟩ := List.cons.inj h
    obtain ⟨a, b⟩ := hb w r h1
    obtain ⟨c, d⟩ := map_back hb h2
    exact ⟨by rw [a, c]; rfl, fun x hx => (List.mem_cons.mp hx).elim (fun e => e ▸ b) (d x)⟩
theorem cyr_back {r : Str} {cs : List (Int × Int)} (h : cyr r = cs.map some) : r = rowC cs ∧ ∀ c ∈ cs, OkC c := by
  unfold cyr at h
  by_cases e : r = "none"
  · rw [if_pos e] at h
    cases cs with
    | nil => exact ⟨e, fun _ h => (List.not_mem_nil h).elim⟩
    | cons _ _ => cases h
  · rw [if_neg e] at h
    obtain ⟨h1, h2⟩ := map_back (g := cw) (Ok := OkC) (fun w r h => cyw_back h) h
    refine ⟨?_, h2⟩
    have hne : cs ≠ [] := fun z => by
      rw [z] at h1
      exact absurd (by rw [← split_map blk blkk, h1]; rfl) (spl_ne 32 (tl r) [])
    unfold rowC
    rw [if_neg hne, ← h1, join_split blk blkk]
theorem cyr_of {cs : List (Int × Int)} (h : ∀ c ∈ cs, OkC c) : cyr (rowC cs) = cs.map some := by
  unfold rowC
  by_cases e : cs = []
  · rw [if_pos e, e]; exact if_pos rfl
  · rw [if_neg e]
    unfold cyr
    rw [if_neg (join_ne fun x hx => by
      obtain ⟨r, _, rfl⟩ := List.mem_map.mp hx
      intro z; have := cw_signs z; omega), split_words (fun z => e (List.map_eq_nil_iff.mp z)) fun x hx => by
      obtain ⟨r, _, rfl⟩ := List.mem_map.mp hx
      intro z; have := cw_signs z; omega, List.map_map]
    exact List.map_congr_left fun r hr => cyw_of (h r hr)
theorem rsr_back {r : Str} {rs : List Int} (h : rsr r = rs.map some) : r = rowP rs ∧ ∀ n ∈ rs, n.natAbs ≤ 1000000000 := by
  unfold rsr at h
  by_cases e : r = "none"
  · rw [if_pos e] at h
    cases rs with
    | nil => exact ⟨e, fun _ h => (List.not_mem_nil h).elim⟩
    | cons _ _ => cases h
  · rw [if_neg e] at h
    obtain ⟨h1, h2⟩ := map_back (g := tI) (Ok := fun n : Int => n.natAbs ≤ 1000000000) (fun w r h => rdw_back h) h
    refine ⟨?_, h2⟩
    have hne : rs ≠ [] := fun z => by
      rw [z] at h1
      exact absurd (by rw [← split_map blk blkk, h1]; rfl) (spl_ne 32 (tl r) [])
    unfold rowP
    rw [if_neg hne, ← h1, join_split blk blkk]
theorem rsr_of {rs : List Int} (h : ∀ n ∈ rs, n.natAbs ≤ 1000000000) : rsr (rowP rs) = rs.map some := by
  unfold rowP
  by_cases e : rs = []
  · rw [if_pos e, e]; exact if_pos rfl
  · rw [if_neg e]
    unfold rsr
    rw [if_neg (join_ne fun x hx => by
      obtain ⟨r, _, rfl⟩ := List.mem_map.mp hx
      intro z; have := int_signs z; omega), split_words (fun z => e (List.map_eq_nil_iff.mp z)) fun x hx => by
      obtain ⟨r, _, rfl⟩ := List.mem_map.mp hx
      intro z; have := int_signs z; omega, List.map_map]
    exact List.map_congr_left fun r hr => rdw_int (h r hr)
/-- all of a list, or none -/
def allS {α : Type} : List (Option α) → Option (List α)
  | [] => some []
  | none :: _ => none
  | some a :: os => (allS os).map (a :: ·)
theorem allS_some {α : Type} : ∀ {os : List (Option α)} {as : List α}, allS os = some as → os = as.map some
  | [], as, h => by cases h; rfl
  | none :: _, _, h => by cases h
  | some a :: os, as, h => by
    obtain ⟨bs, h1, rfl⟩ := Option.map_eq_some_iff.mp h
    rw [allS_some h1]
    rfl
theorem allS_map {α : Type} : ∀ as : List α, allS (as.map some) = some as
  | [] => rfl
  | a :: as => by
    show (allS (as.map some)).map (a :: ·) = _
    rw [allS_map as]
    rfl
theorem allS_none {α : Type} : ∀ {os : List (Option α)}, none ∈ os ↔ allS os = none
  | [] => ⟨fun h => (List.not_mem_nil h).elim, fun h => by cases h⟩
  | none :: os => ⟨fun _ => rfl, fun _ => List.mem_cons_self⟩
  | some a :: os => by
    show _ ↔ (allS os).map (a :: ·) = none
    rw [Option.map_eq_none_iff, ← allS_none (os := os)]
    exact ⟨fun h => (List.mem_cons.mp h).elim (fun z => by cases z) id, fun h => List.mem_cons_of_mem _ h⟩
/-- the text of a count -/
def txt (cs : List (Int × Int)) (rs : List Int) : Str := Txt.join "\n" [rowC cs, rowP rs]
theorem row_nl {ws : List Str} (h : ∀ x ∈ ws, 10 ∉ tl x) : 10 ∉ tl (Txt.join " " ws) := fun z => by
  rw [join_eq, tl_join, blk] at z
  rcases mem_joinL z with k | ⟨p, hp, k⟩
  · have := List.mem_singleton.mp k; omega
  · obtain ⟨x, hx, rfl⟩ := List.mem_map.mp hp
    exact h x hx k
theorem none_nl : 10 ∉ tl ("none" : Str) := by decide +kernel
theorem rowC_nl (cs : List (Int × Int)) : 10 ∉ tl (rowC cs) := by
  unfold rowC
  split
  · exact none_nl
  · refine row_nl fun x hx => ?_
    obtain ⟨r, _, rfl⟩ := List.mem_map.mp hx
    intro z; have := cw_signs z; omega
theorem rowP_nl (rs : List Int) : 10 ∉ tl (rowP rs) := by
  unfold rowP
  split
  · exact none_nl
  · refine row_nl fun x hx => ?_
    obtain ⟨r, _, rfl⟩ := List.mem_map.mp hx
    intro z; have := int_signs z; omega
theorem split_txt (cs : List (Int × Int)) (rs : List Int) : Txt.split (txt cs rs) "\n" = [rowC cs, rowP rs] :=
  split_join (s := 10) (S := []) nlk nlkk (by simp) fun p hp => by
    rcases List.mem_cons.mp hp with rfl | hp
    · exact rowC_nl cs
    · rw [List.mem_singleton.mp hp]; exact rowP_nl rs
end NZ

/-! a def of a class whose first statement is super().__init__(a text): an own exception's __init__ -/
namespace XS
open PySem PySem.Spec PyProof.Rows L2 NdefX
structure FunS (K : PySem.W.Frag) (P : Program) (x qual : Str) (st : Stmt) (C : Addr) (f : Addr) (fd : FuncData) : Prop where
  ex : ∃ (oc : Value) (od : Option Addr) (dV kV doc pm : Value) (an : Option Addr) (cda : Addr) (ct : Value) (osl : Array (Option Value)) (cc : Addr) (cl : Value) (cld : Option Addr) (csl : Array (Option Value)) (ccl : Value) (cdd : Option Addr) (vs : Array Value) (ccs : Array (Option Value)) (file : Str) (tf : Tok),
    fd = PySem.W.fnX x qual (defArgs st) (defBody st) (defScope st) [("__class__", cc)] dV kV doc pm an (.ref cda) ct ∧ K.lookup f = some ⟨oc, od, .func fd, osl⟩ ∧ PySem.W.codeIn K (.ref cda) qual = true ∧
    K.lookup cc = some ⟨cl, cld, .cell (some (.ref C)), csl⟩ ∧ K.lookup cda = some ⟨ccl, cdd, .fields vs, ccs⟩ ∧ vs[2]? = some (.str file tf) ∧ ((P.main.file : Str) == file) = true
/-- what the module says of super -/
structure SupK (K : PySem.W.Frag) (P : Program) (mg : Str → Option Value) : Prop where
  top : (P.main.scope.names.lookup ("super" : Str)).isSome = false
  no : mg "super" = none
  any : PySem.W.nsIn K cStatics "thirdparty.any" = some none
/-- the class over ValueError -/
structure SupC (K : PySem.W.Frag) (C : Addr) : Prop where
  oex : OexC K C
  mro : PySem.W.mroIn K C (.ref C) = some true
  sup : PySem.W.ks_superIn K C C "__init__" = some (some (.builtin "ValueError.__init__"))
  sub : PySem.W.subIn K (.ref C) (.type "ValueError") = some true
theorem FnInit_len {p : Str} : ∀ vs : List V, (∃ a v, vs = [V.ref a, v]) → vs.length = (["self", p] : List Str).length := fun vs h => by
  obtain ⟨a, v, rfl⟩ := h
  rfl
section
variable {X : Cx} {pins : List (Addr × Obj)} {σ : L2.St} {H : Hp} {s : Shared} {a C u : Addr}
/-- the bound ValueError.__init__ called: nothing of it is told -/
theorem call_mw {us : List Value} {Q : Value → Shared → Prop} (T : OexC X.K C) (I : Inv X pins σ H s) (e : H a = some (exo a C none)) (hu : s.heap.get? u = some (PySem.W.kxs_mw "ValueError.__init__" a)) (hl : us.length ≤ sizeLine) (h : ∀ s', Inv X pins σ H s' → Q .none s') {A : Around} {E : Value → Shared → Prop} :
    wpAny (model X.prog X.w) A (call (.ref u) us) Q E s := by
  obtain ⟨nm, q, N, bs, bm, sn, sub, ab, col, dd, k0, k1, k2, k3, k5, hC, hbm⟩ := T.cls
  obtain ⟨t1, ho⟩ := exo_at I.hok e
  have hCs := I.kIn _ _ hC
  obtain ⟨hp, g, d, t, os⟩ := s
  refine wpAny_call (codeAny_of_tree ?_)
  show wpAny _ A.in1 (callAny (.ref u) ⟨us, []⟩) _ _ _
  simp only [callAny]
  refine wpAny_bind (wpAny_load hu ?_)
  simp only [PySem.W.kxs_mw, show (Value.type "method-wrapper" == Value.type "method" || Value.type "method-wrapper" == Value.type "builtin_function_or_method" || Value.type "method-wrapper" == Value.type "method-wrapper") = true by decide, if_true]
  refine PySem.W.KFB.if_so (by decide) ?_
  show wpAny _ _ (checkBoundCall "ValueError.__init__" ⟨.ref a :: us, []⟩ >>= fun _ => again (.builtin "ValueError.__init__" ⟨.ref a :: us, []⟩)) _ _ _
  have FB := PySem.F.excBase_ValueError
  refine wpAny_bind (PySem.W.check_bound_init FB.toExcCallFacts hCs ho rfl ?_)
  refine wpAny_pure ⟨plainId_quiet FB.init.plain _, codeAny_builtin FB.initEntry ?_⟩
  rw [Around.under_plainId FB.init.plain _]
  refine PySem.W.exc_init_tree (cls := .ref C) (t0 := t1) (dv := none) (c2 := .none) (c3 := .none) (b4 := .bool false) ho hl fun h' k hx ht => ?_
  have J := I.write (t' := t) (x := a) (e := a) (o := exo a C none) (by rw [e]; exact True.intro) (.inl rfl) k ⟨_, hx⟩ (exo_ok hx)
  have eu : upd H a (exo a C none) = H := by
    funext b
    by_cases hb : b = a
    · rw [hb, upd_same, e]
    · rw [upd_ne hb]
  rw [eu] at J
  exact h _ J
end
theorem lookup_one {k y : Str} {c d : Addr} (e : List.lookup y [(k, c)] = some d) : y = k ∧ d = c := by
  rw [List.lookup_cons] at e
  split at e
  · rename_i h
    exact ⟨by simpa using h, (Option.some.inj e).symm⟩
  · cases e
section
variable {CX : CXT} {P : Program} {w : World} {K : PySem.W.Frag} {mg : Str → Option Value} {base : Heap} {N ps : List Str} {k : Nat} {sp : Sp} {x qual a0 : Str} {st : Stmt} {C f : Addr} {fd : FuncData} {p0 p1 p2 p3 p4 p5 : Pos} {z : Str} {j : Nat} {rest : List Stmt} {pl : Env → Sem Bool}
theorem fn_sup (F : FunS K P x qual st C f fd) (SK : SupK K P mg) (SC : SupC K C)
    (hb : defBody st = .Expr (.Call (.Attribute (.Call (.Name "super" p0) [] [] p1) "__init__" p2) [.Constant (.str z) j p5] [] p3) p4 :: rest)
    (S : NScope N ps ["__class__"] (defScope st)) (hsu : (defScope st).names.lookup ("super" : Str) = some .globalImplicit) (har : ((defArgs st).posonlyargs ++ (defArgs st).args).head?.map (·.arg) = some a0) (hps : ps[0]? = some a0) (hN : N[0]? = some a0) (hda : (a0 == ("__debug__" : Str)) = false)
    (hc : ∀ env, eval (.Call (.Attribute (.Call (.Name "super" p0) [] [] p1) "__init__" p2) [.Constant (.str z) j p5] [] p3) env = (do
      let ov ← attributeBase (.Call (.Name "super" p0) [] [] p1) "__init__" env (eval (.Call (.Name "super" p0) [] [] p1) env)
      standAt p2.atName
      let (f, first) ← holding [ov] (getMethod ov "__init__" (pl env))
      callWith p3 f first (backTo p3 (starEach [.Constant (.str z) j p5] env)) []))
    (len : ∀ vs H Q E, sp vs H Q E → vs.length = ps.length)
    (hbody : ∀ (F : NF) (A : Around) (outer : List Env) (s : Shared) (H : Hp) (vs : List V) (Q : VK) (E : XK), F.scope = defScope st → Room k (A.deeper (envF F f s.heap.objs.size)) → sp vs H Q E →
      ∃ a, vs[0]? = some (.ref a) ∧ H a = some (exo a C none) ∧ ∃ t, PSs (ncx CX P w K mg base N F f A outer s H E) rest t ∧ t { nx := fun _ H' => Q .non H', rt := Q } (startF N vs [none]) H) :
    FnOk P w K mg base CX (k + 1) f fd ps sp := by
  obtain ⟨oc, od, dV, kV, doc, pm, an, cda, ct, osl, cc, cl, cld, csl, ccl, cdd, cvs, ccs, file, tf, rfl, lk, hcd, lcc, lcd, hv2, hfile⟩ := F.ex
  obtain ⟨NFF, hNF⟩ : ∃ NFF : NF, NFF = ⟨x, qual, defArgs st, defBody st, defScope st, [("__class__", cc)], cda⟩ := ⟨_, rfl⟩
  refine ⟨len, fun A outer s H args us vs Q E hr e0 hbd r hsp => ?_⟩
  have hl := len _ _ _ _ hsp
  have KX : K.In s.heap := e0.mod.kin.keeps fun b o e => (e0.bs b o e).1
  have lim : s.heap.NoLimit := e0.mod.nolimit.keeps fun b o e => (e0.bs b o e).1
  have CA : CellsAt NFF.cl ["__class__"] [none] s.heap H := by
    subst hNF
    refine ⟨rfl, fun y c e => ?_, fun y1 y2 c e1 e2 => ?_, fun i y e => ?_⟩
    · obtain ⟨_, rfl⟩ := lookup_one e
      exact ⟨(e0.bs _ _ (e0.mod.kin _ _ lcc)).2, _, ⟨_, KX _ _ lcc, rfl⟩⟩
    · rw [(lookup_one e1).1, (lookup_one e2).1]
    · match i, e with
      | 0, e =>
        cases e
        exact ⟨cc, by simp, fun v e => by cases e⟩
  refine codeAny_call_function hr.depth (KX _ _ lk) rfl S.co S.gen rfl (PySem.W.codeRec_of KX hcd) (hbd _ _ _ _ ?_)
  refine wpAny_newFunctionEnv S.nocell (fun ⟨n, _⟩ hy => S.par n (List.of_mem_zip hy).1) (fun h₁ hns hsb => ⟨lim.fresh _ hsb, ?_⟩) S.kind
  have kp : ∀ b o, s.heap.get? b = some o → h₁.get? b = some o := fun b o e => hsb.extBut b o (Nat.ne_of_lt (Heap.lt_size e)) (Heap.get?_push_of_some _ e)
  obtain ⟨a, hv0, ea, t, ht, hq⟩ := hbody NFF A outer s H vs Q E (by rw [hNF]) (hr.deeper _) hsp
  have I : Inv (ncx CX P w K mg base N NFF f A outer s H E) [] (startF N vs [none]) H { s with heap := h₁, toks := s.toks + (ps.zip us).length } := inv_startN (by rw [hNF]; exact S) hr.hd e0 hl r CA hns kp
  show codeAny _ _ (.func (defBody st) (PySem.W.envX qual (defScope st) s.heap.objs.size f (.ref cda) [("__class__", cc)])) _ _
  refine ks_codeAny_funcAt ?_
  have eqA : A.deeper (PySem.W.envX qual (defScope st) s.heap.objs.size f (.ref cda) [("__class__", cc)]) = (ncx CX P w K mg base N NFF f A outer s H E).A := by rw [hNF]; rfl
  have eqE : PySem.W.envX qual (defScope st) s.heap.objs.size f (.ref cda) [("__class__", cc)] = (ncx CX P w K mg base N NFF f A outer s H E).env := by rw [hNF]; rfl
  rw [hb]
  have hi : interactive (PySem.W.envX qual (defScope st) s.heap.objs.size f (.ref cda) [("__class__", cc)]) = false := by simp [interactive, S.kind]
  refine ks_wpAt_execs_cons (ks_wpAt_Expr_any (ks_wpAt_MethodCall ?_ (hc _)) hi rfl)
  have kO : (PySem.W.envX qual (defScope st) s.heap.objs.size f (.ref cda) [("__class__", cc)]).scope.kind = .function := S.kind
  have IK := I.kIn
  have hcl : (defScope st).names.lookup ("__class__" : Str) = some .free := S.frk _ List.mem_cons_self
  obtain ⟨ar, har1, har2⟩ : ∃ ar : Arg, ((defArgs st).posonlyargs ++ (defArgs st).args).head? = some ar ∧ ar.arg = a0 := by
    cases h : ((defArgs st).posonlyargs ++ (defArgs st).args).head? with
    | none => rw [h] at har; cases har
    | some ar => rw [h] at har; exact ⟨ar, rfl, Option.some.inj har⟩
  refine ks_wpAt_super_base (env := PySem.W.envX qual (defScope st) s.heap.objs.size f (.ref cda) [("__class__", cc)]) hsu hcl (by decide) rfl (IK _ _ lk) rfl har1 rfl (IK _ _ lcd) rfl hv2 hfile SK.top ?_
  obtain ⟨mb, hmb1, hmb2⟩ := I.mod.blt
  refine PySem.W.ks_loadName_global kO hsu (Calls.loadGlobal_builtin (env := PySem.W.envX qual (defScope st) s.heap.objs.size f (.ref cda) [("__class__", cc)]) (I.mod.glob.keeps I.bk) SK.no (hmb1.keeps I.bk) ((hmb2 "super" (by decide)).trans (show bootBuiltins "super" = some (.type "super") by decide +kernel)) ⟨rfl, ?_⟩)
  refine wpAny_loadName_free kO hcl (show List.lookup ("__class__" : Str) [(("__class__" : Str), cc)] = some cc by simp) ⟨_, IK _ _ lcc, rfl⟩ ?_
  obtain ⟨m, hns2, hl2⟩ := I.loc
  have hpm : a0 ∈ ps := List.mem_of_getElem? hps
  have hs0 : (startF N vs [none])[0]? = some (some (.ref a)) := by
    unfold startF
    have : 0 < vs.length := (List.getElem?_eq_some_iff.mp hv0).1
    rw [List.getElem?_append_left (by rw [List.length_map]; exact this), List.getElem?_map, hv0]
    rfl
  obtain ⟨u0, ru0, lk0⟩ := hl2 0 a0 (.ref a) hN hs0 (.inl (by rw [hNF]; exact S.par a0 hpm))
  have ru0 : u0 = Value.ref a := ru0
  subst ru0
  have kl : (PySem.W.envX qual (defScope st) s.heap.objs.size f (.ref cda) [("__class__", cc)]).kindOf a0 = some .local := S.par a0 hpm
  have hm0 : m a0 = some (.ref a) := by
    rcases lk0 with ⟨_, h⟩ | ⟨h, _⟩
    · exact h
    · rw [← eqE, kl] at h
      rcases h with h | h <;> cases h
  rw [har2]
  refine wpAny_loadName_local kO kl (by rw [hNF] at hns2; exact hns2) hm0 ?_
  obtain ⟨nm, q, NN, bs, bm, sn, sub, ab, col, dd, k0, k1, k2, k3, k5, hC, hbm⟩ := SC.oex.cls
  have hCl : PySem.W.clsIn K C = some { name := nm, bases := bs, mro := .ref C :: bm, ns := NN, qualname := q, hasDict := true, slotNames := sn, subclasses := sub, abstract := ab, collection := col, hasDel := false } := by unfold PySem.W.clsIn; rw [hC] <;> rfl
  obtain ⟨t1, ho⟩ := exo_at I.hok ea
  refine ks_wpAny_isType_cls (IK _ _ hC) rfl ⟨rfl, ?_⟩
  refine ks_wpAny_call_super (IK _ _ hC) rfl ho rfl (fun c z => nomatch z) (PySem.W.looks_mroIn IK SC.mro) (fun h2 e2 k2 => ?_)
  have I2 := I.kept (t' := s.toks + (ps.zip us).length) k2
  have IK2 : K.In h2 := I2.kIn
  have IA : PySem.W.InstAt h2 a _ C none := ⟨k2 _ _ ho, rfl, rfl, trivial⟩
  have hm := SC.sup
  unfold PySem.W.ks_superIn at hm
  rw [hCl] at hm
  refine PySem.W.kxs_getMethod PySem.W.kxs_ValueError e2 (PySem.W.looks_opaque IK2 SK.any) (l₀ := .ref C :: bm) (fun A Q E s k q => wpAny_bind ((PySem.W.looks_clsIn IK2 hCl) A _ E s k (wpAny_pure q))) rfl IK2 hm (IA.type.andThen (PySem.W.looks_subIn IK2 SC.sub)) (PySem.W.ks_ne IK2 IA hCl) (by decide) ?_
  have I3 := ClX.pin_new (t' := s.toks + (ps.zip us).length + 1) (o := PySem.W.kxs_mw "ValueError.__init__" a) I2 (fun _ _ z => Heap.get?_push_of_some _ z) (Nat.le_refl _) (Heap.get?_push_size h2 rfl) (fun v z => nomatch z)
  subst hNF
  refine PySem.W.kxs_callWith (i := "ValueError.__init__") (x := a) rfl (PySem.Calls.evalArgs_plain ?_)
  refine thn ((pa_cons pe_str pa_nil : PA (ncx CX P w K mg base N ⟨x, qual, defArgs st, defBody st, defScope st, [("__class__", cc)], cda⟩ f A outer s H E) [.Constant (.str z) j p5] (tCons (tC (.str z)) tNil)).run p3 _ _ _ H (fun vs H' => H' = H ∧ vs.length ≤ 1) I3 ⟨rfl, Nat.le_refl _⟩) fun us2 s2 ⟨vs2, H2, I4, r4, eH, l4⟩ => ?_
  subst eH
  have hu := ClX.pin_at I4
  refine ⟨hu, ?_⟩
  refine call_mw SC.oex (ClX.unpin I4) ea hu (by show us2.length ≤ sizeLine; rw [← Paired.length r4, sizeLine_eq]; omega) fun s5 I5 => ?_
  refine wpAt_of_wpAny (wpAny_mono (ht.run [] _ _ H2 _ I5 hq) (fun fl s' hs => ?_) fun e s' hs => hs)
  have fin : ∀ {σ' : L2.St} {H' : Hp} {v : V} {u : Value}, Inv (ncx CX P w K mg base N ⟨x, qual, defArgs st, defBody st, defScope st, [("__class__", cc)], cda⟩ f A outer s H2 E) [] σ' H' s' → L2.RelV v u → Q v H' → CE outer P w H2 s Q u s' :=
    fun {σ' H' v u} J rv q => ⟨v, H', J.os, J.bare, J.base, J.hok, rv, q⟩
  cases fl with
  | ret u =>
    obtain ⟨v, σ', H', J, rv, q⟩ := hs
    exact fin J rv q
  | next =>
    obtain ⟨σ', H', J, q⟩ := hs
    exact fin (v := V.non) (u := Value.none) J rfl q
  | brk =>
    obtain ⟨_, _, _, q⟩ := hs
    exact False.elim q
  | cont =>
    obtain ⟨_, _, _, q⟩ := hs
    exact False.elim q
end
end XS

/-! an own error's __init__: super().__init__(a text), then self.f = p -/
namespace XS
open PySem PySem.Spec PyProof.Rows L2 NdefX
/-- what it leaves: the error's dict has the field -/
def spInit (C : Addr) (f : Str) : Sp := fun vs H Q _ => ∃ (a : Addr) (v : V), vs = [.ref a, v] ∧ H a = some (exo a C none) ∧ ∀ dx, H dx = none → dx ≠ a → Q .non (upd (upd H dx (exd dx [(f, v)])) a (exo a C (some dx)))
theorem spInit_len {C : Addr} {f p : Str} : ∀ vs H Q E, spInit C f vs H Q E → vs.length = (["self", p] : List Str).length := fun vs H Q E h => by
  obtain ⟨a, v, rfl, _⟩ := h
  rfl
section
variable {CX : CXT} {P : Program} {w : World} {K : PySem.W.Frag} {mg : Str → Option Value} {base : Heap} {k : Nat} {x qual p fld : Str} {st : Stmt} {C f : Addr} {fd : FuncData} {p0 p1 p2 p3 p4 p5 q1 q2 q3 q4 : Pos} {z : Str} {j : Nat} {pl : Env → Sem Bool}
theorem fn_init (F : FunS K P x qual st C f fd) (SK : SupK K P mg) (SC : SupC K C)
    (hb : defBody st = .Expr (.Call (.Attribute (.Call (.Name "super" p0) [] [] p1) "__init__" p2) [.Constant (.str z) j p5] [] p3) p4 :: [.Assign [.Attribute (.Name "self" q1) fld q2] (.Name p q3) q4])
    (S : NScope ["self", p, "__class__"] ["self", p] ["__class__"] (defScope st)) (hsu : (defScope st).names.lookup ("super" : Str) = some .globalImplicit) (har : ((defArgs st).posonlyargs ++ (defArgs st).args).head?.map (·.arg) = some "self")
    (hdp : (p == ("__debug__" : Str)) = false) (hcp : (p == ("__classdict__" : Str)) = false)
    (hls : (defScope st).names.lookup ("self" : Str) = some .local) (hlp : (defScope st).names.lookup p = some .local)
    (hno : PySem.W.findIn K (.ref C) fld = some none)
    (hc : ∀ env, eval (.Call (.Attribute (.Call (.Name "super" p0) [] [] p1) "__init__" p2) [.Constant (.str z) j p5] [] p3) env = (do
      let ov ← attributeBase (.Call (.Name "super" p0) [] [] p1) "__init__" env (eval (.Call (.Name "super" p0) [] [] p1) env)
      standAt p2.atName
      let (f, first) ← holding [ov] (getMethod ov "__init__" (pl env))
      callWith p3 f first (backTo p3 (starEach [.Constant (.str z) j p5] env)) []))
    (hsw : ∀ env, swapsWith (.Name p q3) (some (.Attribute (.Name "self" q1) fld q2)) q4.line env = pure false) :
    FnOk P w K mg base CX (k + 1) f fd ["self", p] (spInit C fld) := by
  refine fn_sup (sp := spInit C fld) F SK SC hb S hsu har rfl rfl (by decide) hc spInit_len fun NFF A outer s H vs Q E hF hr h => ?_
  obtain ⟨a, v, rfl, ea, hq⟩ := h
  refine ⟨a, rfl, ea, _, pss_one (ps_ost (pe_var (i := 0) (x := "self") rfl (.inl ?_) (by decide) (by decide)) (pe_var (i := 1) (x := p) rfl (.inl ?_) hdp hcp) (hsw _)), ?_⟩
  · show NFF.scope.names.lookup ("self" : Str) = some .local
    rw [hF]; exact hls
  · show NFF.scope.names.lookup p = some .local
    rw [hF]; exact hlp
  · exact ⟨v, rfl, .ref a, rfl, a, C, rfl, SC.oex, hno, .inl ⟨ea, fun dx n ne => hq dx n ne⟩⟩
end
end XS

/-! a caught error that is kept behind its suite: caught = error; its fields; isinstance of it -/
namespace PySem.W
open PySem PySem.Spec PySem.Calls PyProof.Rows
section
variable {prog : Program} {w : World} {A : Around} {E : Value → Shared → Prop} {s : Shared} {K : Frag} {x D : Addr} {ox : Obj} {od : Option Obj}
theorem xk_findObj {C : Addr} {name : Str} {a g : Value} (hc : (clsIn K C).isSome = true) (ha : findIn K (.ref C) name = some (some a)) (hg : specialIn K a "__get__" = some (some g)) (ht : takesIn K a = some true) : findObj K C od name = some (.bind g a) := by
  obtain ⟨cd, hc⟩ := Option.isSome_iff_exists.mp hc
  unfold findObj
  rw [hc, Option.bind_some, ha, Option.bind_some]
  simp [hg, ht]
theorem xk_class {Q : Option Value → Shared → Prop} (hga : findIn K (.ref D) "__getattribute__" = some (some (.builtin "BaseException.__getattribute__"))) (hgt : findIn K (.ref D) "__getattr__" = some none) (hsub : subIn K (.ref D) (.type "BaseException") = some true)
    (hdct : hasDictIn K D = true) (ha : findIn K (.ref D) "__class__" = some (some (.builtin "object.__class__")))
    (hn : specialIn K (.builtin "object.__class__") "__get__" = some (some (.builtin "getset_descriptor.__get__"))) (htk : takesIn K (.builtin "object.__class__") = some true) (hm : mroIn K D (.type "object") = some true)
    (X : K.In s.heap) (I : InstAt s.heap x ox D od) (h : Q (some (.ref D)) { s with toks := s.toks + 1 }) : wpAny (model prog w) A (getAttr? (.ref x) "__class__") Q E s := by
  have hf : findObj K D od "__class__" = some (.bind (.builtin "getset_descriptor.__get__") (.builtin "object.__class__")) := xk_findObj (by obtain ⟨cd, hc, _⟩ := any_some hdct; rw [hc]; rfl) ha hn htk
  obtain ⟨hp, g, d, t, os⟩ := s
  have L0 := I.type (M := model prog w)
  have L1 := looks_findIn (M := model prog w) X hga
  have L2 := looks_findIn (M := model prog w) X hgt
  have L3 := looks_find (M := model prog w) X I hf
  have sub : Looks (model prog w) hp (isInstance (.ref x) (.type "BaseException")) true := L0.andThen (looks_subIn X hsub)
  have hx0 : (false && onTheHeap (Value.builtin "BaseException.__getattribute__")) = false := rfl
  have hx2 : (Value.builtin "BaseException.__getattribute__" == Value.builtin "object.__getattribute__") = false := by decide +kernel
  have hx1 : (onTheHeap (Value.ref D) && Value.builtin "BaseException.__getattribute__" == Value.builtin "object.__getattribute__") = false := by rw [hx2]; rfl
  unfold getAttr? getAttrBy? getAttrBy
  refine wpAny_bind (wpAny_mkText (wpAny_bind (wpAny_attempt (wpAny_holding (wpAny_bind (L0.at (wpAny_bind (L1.at ?_))))))))
  show wpAny _ _ (if (onTheHeap (Value.ref D) && Value.builtin "BaseException.__getattribute__" == Value.builtin "object.__getattribute__") = true then _ else _) _ _ _
  rw [hx1, if_neg Bool.false_ne_true]
  unfold getAttrByItsOwn hookBefore
  refine wpAny_bind ?_
  rw [if_pos (show onTheHeap (Value.ref D) = true from rfl)]
  refine L2.at ?_
  refine wpAny_bind (wpAny_attempt (wpAny_holding ?_))
  unfold callGetattribute
  rw [hx0, if_neg Bool.false_ne_true]
  unfold boundAndCalled
  rw [PySem.F.excAttr_ValueError.ga.bind (.ref x)]
  refine wpAny_bind (wpAny_pure ?_)
  show wpAny _ _ (call (.builtin "BaseException.__getattribute__") [.ref x, .str "__class__" t]) _ _ _
  refine wpAny_call (codeAny_call_builtin PySem.F.excAttr_ValueError.ga.plain PySem.F.entry_bexc_ga ?_)
  refine @check_slot (model prog w) _ _ ⟨hp, g, d, t + 1, os⟩ "BaseException.__getattribute__" "BaseException" "__getattribute__" (.ref x) [.str "__class__" t] [] _ (by decide +kernel) (by decide +kernel) sub (PySem.F.args_bexc_ga (.ref x) (.str "__class__" t)) ?_
  unfold Builtin.«object.__getattribute__»
  refine wpAny_bind (wpAny_of_eq (a := ((Value.ref x : Value), [Value.str "__class__" t])) (by first | rfl | (simp only [slotArgs]; rfl)) ?_)
  refine wpAny_bind (wpAny_pure (wpAny_bind (L0.at (wpAny_bind (L3.at ?_)))))
  show wpAny _ _ (holding [Value.builtin "object.__class__"] (call (.builtin "getset_descriptor.__get__") [.builtin "object.__class__", .ref x, .ref D]) >>= ret) _ _ _
  refine wpAny_bind (wpAny_holding (wpAny_call (class_get (s := ⟨hp, g, d, t + 1, os⟩) (ox := ox) (od := od) X I hm ?_)))
  refine wpAny_pure ?_
  show wpAny _ _ (handedOut (.ref D)) _ _ _
  rw [handedOut_of (v := .ref D) rfl]
  first
    | exact wpAny_pure (wpAny_pure h)
    | exact wpAny_pure h
    | exact wpAny_pure (wpAny_bind (wpAny_pure (wpAny_pure h)))
theorem xk_kitx (hga : findIn K (.ref D) "__getattribute__" = some (some (.builtin "BaseException.__getattribute__"))) (hgt : findIn K (.ref D) "__getattr__" = some none) (hsub : subIn K (.ref D) (.type "BaseException") = some true) (hdct : hasDictIn K D = true) (ha : findIn K (.ref D) "__class__" = some (some (.builtin "object.__class__")))
    (hn : specialIn K (.builtin "object.__class__") "__get__" = some (some (.builtin "getset_descriptor.__get__"))) (htk : takesIn K (.builtin "object.__class__") = some true) (hm : mroIn K D (.type "object") = some true) :
    KitX K (.ref x) (.ref D) (fun h => InstAt h x ox D od) where
  ty := fun _ _ _ I => I.type
  it := fun _ _ X _ => by
    obtain ⟨cdD, hcD, _⟩ := any_some hdct
    unfold clsIn at hcD
    split at hcD
    · rename_i c' d' cd' sl' ho
      intro A' Q' E' s' k q
      unfold isType loadHead
      exact wpAny_bind (wpAny_loadPart (k _ _ (X _ _ ho)) (wpAny_pure q))
    · cases hcD
  ne := fun h tp dd its n sl X htp => by
    obtain ⟨cdD, hcD, _⟩ := any_some hdct
    refine Bool.eq_false_iff.mpr fun q => ?_
    have e : D = tp := Value.ref.inj (beq_iff_eq.mp q)
    subst e
    unfold clsIn at hcD
    split at hcD
    · rename_i c' d' cd' sl' ho
      have z := (X _ _ ho).symm.trans htp
      cases z
    · cases hcD
  ca := fun X I k => xk_class hga hgt hsub hdct ha hn htk hm X I k
end
end PySem.W
namespace XS
open PySem PySem.Spec PyProof.Rows L2
/-- at a: an error of the class cls, with the dict d, that is kept -/
def exk (a : Addr) (cls : Value) (d : Option Addr) : HO := .ext fun h => ∃ oe vs, h.get? a = some oe ∧ Zc cls d oe ∧ oe.data = .fields vs
theorem exk_own {e x : Addr} {c : Value} {d : Option Addr} : exk e c d ≠ .own x := fun z => by
  have z' : HO.ext _ = HO.own x := z
  cases z'
theorem exk_tup {e : Addr} {c : Value} {d : Option Addr} {xs : List V} : exk e c d ≠ .tup xs := fun z => by
  have z' : HO.ext _ = HO.tup xs := z
  cases z'
theorem exk_lst {e : Addr} {c : Value} {d : Option Addr} {xs : List V} : exk e c d ≠ .lst xs := fun z => by
  have z' : HO.ext _ = HO.lst xs := z
  cases z'
theorem exk_ok {P : Program} {w : World} {H : Hp} {h : Heap} {e : Addr} {cls : Value} {d : Option Addr} {oe : Obj} {vs : Array Value} (he : h.get? e = some oe) (hz : Zc cls d oe) (hd : oe.data = .fields vs) : ObjOk P w H h e (exk e cls d) :=
  ⟨⟨oe, vs, he, hz, hd⟩, ⟨_, he⟩, fun h1 h2 z k => by
    obtain ⟨o, v, q, r⟩ := z
    exact ⟨o, v, k _ q, r⟩⟩
theorem exk_at {P : Program} {w : World} {H : Hp} {h : Heap} {e : Addr} {cls : Value} {d : Option Addr} (hok : HOk P w H h) (he : H e = some (exk e cls d)) : ∃ oe vs, h.get? e = some oe ∧ Zc cls d oe ∧ oe.data = .fields vs := by
  have x : ObjOk P w H h e (.ext fun h => ∃ oe vs, h.get? e = some oe ∧ Zc cls d oe ∧ oe.data = .fields vs) := hok e _ he
  exact x.1
section
variable {X : Cx} {pins : List (Addr × Obj)} {σ : L2.St} {H : Hp} {s : Shared} {a : Addr} {cls : Value} {d : Option Addr} {oe : Obj} {vs : Array Value}
theorem keep_ok (I : Inv X pins σ H s) (h : s.heap.get? a = some oe) (hz : Zc cls d oe) (hd : oe.data = .fields vs) (na : H a = none) (new : X.s_0.heap.get? a = none) (nL : a ≠ X.env.locals) (hp : ∀ p ∈ X.pn ++ pins, p.1 ≠ a) : Inv X pins σ (upd H a (exk a cls d)) s := by
  have ne : ∀ {b : Addr} {o : HO}, H b = some o → b ≠ a := fun {b o} z => ne_of_none z na
  refine ⟨I.ok, I.os, I.bare, ⟨I.base.keep, I.base.slot, fun b o e n hx => ?_, I.base.there, fun b xs z => ?_, fun b o v z => ?_, fun b ps z => ?_⟩, I.loc, I.cell, ?_, fun x c e => ?_, fun p hpm => ?_, fun b o e => ?_, I.len⟩
  · rw [upd_ne (by rintro rfl; rw [new] at e; cases e)]
    exact I.base.free b o e n hx
  · have z' := I.base.tups b xs z
    rw [upd_ne (ne z')]; exact z'
  · have z' := I.base.frzs b o v z
    rw [upd_ne (ne z')]; exact z'
  · obtain ⟨qs, z'⟩ := I.base.tbls b ps z
    exact ⟨qs, by rw [upd_ne (ne z')]; exact z'⟩
  · rw [upd_ne (Ne.symm nL)]; exact I.free
  · have : c ≠ a := by
      rintro rfl
      obtain ⟨v, o, ho, hdd⟩ := I.cell x c e
      rw [h] at ho; cases ho
      rw [hd] at hdd; cases hdd
    rw [upd_ne this]; exact I.freeC x c e
  · obtain ⟨p1, p2, p3, p4, p5⟩ := I.pin p hpm
    exact ⟨p1, by rw [upd_ne (hp p hpm)]; exact p2, p3, p4, p5⟩
  · by_cases hb : b = a
    · subst hb
      rw [upd_same] at e
      cases e
      exact exk_ok h hz hd
    · rw [upd_ne hb] at e
      exact (I.hok b o e).stay (fun c v hc z => z) (fun c hc => by rw [upd_ne (ne hc)]; exact hc) (fun c xs hc => by rw [upd_ne (ne hc)]; exact hc)
end
/-- what the clause 'except x as n' wishes, where the error may be kept behind it -/
def wAsK (K : PySem.W.Frag) (c : Value) (i : Nat) (ts : Addr → Value → Option Addr → TS) (Wout : WX) (D : Ends) : WX := fun cls d σ H =>
  ∃ b, PySem.W.exmOne K cls c = some b ∧ (b = true → ∀ a, H a = none → ts a cls d { nx := fun σ' H' => D.nx (σ'.set i none) (upd H' a (exk a cls d)), rt := D.rt, bk := fun σ' H' => D.bk (σ'.set i none) H', ct := fun σ' H' => D.ct (σ'.set i none) H' } (σ.set i (some (.ref a))) H) ∧
    (b = false → Wout cls d σ H)
section
variable {X : Cx} {x n : Str} {c : Value} {i : Nat} {body suite : List Stmt} {b₀ : Stmt} {np pos pos' : Pos} {tb : WX → TS} {ts : Addr → Value → Option Addr → TS} {Wout : WX}
theorem ps_try_keep (hs : X.stack = X.env :: X.outer) (hex : X.ex = []) (hf : X.env.frame = some X.env.locals) (hN : X.N.Nodup) (hi : X.N[i]? = some n) (hln : X.env.kindOf n = some .local) (hc : Names X x c) (tk : Takes X Wout)
    (hb : ∀ (W : WX) (pn : List (Addr × Obj)) (xe : Value → Shared → Prop), Takes (X.tr pn xe) W → PassesOwn (model X.prog X.w) X.A X.env xe → PSs (X.tr pn xe) body (tb W))
    (hsu : ∀ (a : Addr) (oe : Obj) (cls : Value) (d : Option Addr) (pn : List (Addr × Obj)), Zc cls d oe → (∃ vs, oe.data = .fields vs) → PSs (X.suite a ((a, oe) :: pn)) (b₀ :: suite) (ts a cls d)) :
    PS X (.Try body [.ExceptHandler (some (.Name x np)) (some n) (b₀ :: suite) pos'] [] [] pos) (fun D σ H => tb (wAsK X.K c i ts Wout D) D σ H) := by
  refine ⟨fun pins s σ H D I h => ?_⟩
  have ok := I.ok
  have hfr : X.A.frames = some (X.env :: X.outer) := by rw [ok.frames, hs]
  have hloc : Loc X.env.scope n := .inl hln
  refine wpAny_Try_except ?_
  refine wpAny_mono ((hb (wAsK X.K c i ts Wout D) (X.pn ++ pins) (fun e s₁ => wpAny (model X.prog X.w) X.A (noteFrame e X.env) (fun _ s₂ => wpAny (model X.prog X.w) X.A (setFlight e none) (fun _ s₃ =>
    wpAny (model X.prog X.w) X.A (handleBy e X.env [.ExceptHandler (some (.Name x np)) (some n) (b₀ :: suite) pos']) (SP X pins D) X.xe s₃) X.xe s₂) X.xe s₁) (fun u s' xx => ?_) PassesOwn.looking).run [] s σ H D (I.toTry _) h) (fun f s1 hsp => ?_) (fun e s1 he => he)
  · -- the catch
    obtain ⟨a, B, sI, pins', σ', H', cls, d, rfl, J', nb, up, sky, na, os, ag, b, hb1, hyes, hno⟩ := xx
    have J : Inv X pins σ' H' sI := J'.ofTry ok
    have sky' : Sky B (X.env :: X.outer) a (Zc cls d) X.env.locals s'.heap := by rw [← hs]; exact sky
    show wpAny (model X.prog X.w) X.A (noteFrame (.ref a) X.env) _ _ _
    refine Sky.land Zc.steady hfr hf sky' fun h3 fl3 up3 => ?_
    have J3 : Inv X pins σ' H' { s' with heap := h3 } := J.landed nb fl3.1 (up.trans up3) os ag
    obtain ⟨oe3, vs3, he3, hz3, hd3⟩ := fl3.there
    have notFr : ∀ {h : Heap} {o : Obj} {vs : Array Value}, h.FunFrames B (X.env :: X.outer) → h.get? a = some o → o.data = .fields vs → a ∉ frs (X.env :: X.outer) := fun {h o vs} ff e dd hm => by
      obtain ⟨_, o', e', hnf⟩ := ff.mem hm
      rw [e] at e'; cases e'
      exact hnf _ dd
    have nfr := notFr fl3.2.2.1 he3 hd3
    have nL : a ≠ X.env.locals := fun z => nfr (List.mem_filterMap.mpr ⟨X.env, List.mem_cons_self, by rw [hf, z]⟩)
    have nF : a ∉ X.fs := fun hm => by
      obtain ⟨e, he, q⟩ := List.mem_filterMap.mp hm
      exact nfr (List.mem_filterMap.mpr ⟨e, List.mem_cons_of_mem _ he, q⟩)
    have nI : sI.heap.get? a = none := by
      cases q : sI.heap.get? a with
      | none => rfl
      | some o =>
        have z := nb a o q (by rw [hs]; exact nfr)
        rw [fl3.2.1] at z; cases z
    have new : X.s_0.heap.get? a = none := by
      cases q : X.s_0.heap.get? a with
      | none => rfl
      | some o =>
        obtain ⟨o', z⟩ := J.base.there a o q (by rw [hex]; simp)
        rw [nI] at z; cases z
    have hpn : ∀ p ∈ X.pn ++ pins, p.1 ≠ a := fun p hp z => by
      have := (J.pin p hp).1
      rw [z, nI] at this; cases this
    have S3 := J3.suite he3 hd3 na nL nF
    refine wpAny_handleBy_cons (codeAny_handlers_test ?_) (by intro q; cases q)
    have LT : PySem.W.Looks (model X.prog X.w) h3 (typeOf (.ref a)) cls := fun A Q E s k q => wpAny_typeOf_ref (k _ _ he3) (by rw [hz3.1]; exact q)
    have LM := PySem.W.exm_one (M := model X.prog X.w) (J3.kIn) LT hb1
    have test : ∀ {Q : Value → Shared → Prop} {E : Value → Shared → Prop}, Q c { s' with heap := h3 } → wpAny (model X.prog X.w) (X.A.mark (some (.ref a))) (eval (.Name x np) X.env) Q E { s' with heap := h3 } := fun {Q E} q => by
      obtain ⟨hg, hdbg, hm | ⟨hm, hv, hnn⟩⟩ := hc
      · exact ld_glob (X := X.suite a ((a, oe3) :: (X.pn ++ pins))) S3 hg hm q hdbg
      · exact ld_blt (X := X.suite a ((a, oe3) :: (X.pn ++ pins))) S3 hg hm hv q hnn hdbg
    refine test (LM.here ?_)
    cases b with
    | true =>
      refine codeAny_handlers_suite_as ?_
      refine HandSPX.lands_againZ fl3 fun h4 fl4 up4 => ?_
      have J4 : Inv X pins σ' H' { s' with heap := h4 } := J.landed nb fl4.1 ((up.trans up3).trans up4) os ag
      obtain ⟨oe4, vs4, he4, hz4, hd4⟩ := fl4.there
      have S4 := J4.suite he4 hd4 na nL nF
      refine store_ok (X := X.suite a ((a, oe4) :: (X.pn ++ pins))) (v := .ref a) S4 hN hi hloc rfl (fun s5 S5 => ?_) (.inr hln)
      refine wpAny_mono ((hsu a oe4 cls d (X.pn ++ pins) hz4 ⟨_, hd4⟩).run [] s5 _ H' _ S5 (hyes rfl a na)) (fun f s6 hsp => ?_) (fun _ _ z => False.elim z)
      have end_ : ∀ {σ6 : L2.St} {H6 : Hp} {Q : Shared → Prop}, Inv (X.suite a ((a, oe4) :: (X.pn ++ pins))) [] σ6 H6 s6 → (∀ s7, Inv X pins (σ6.set i none) H6 s7 → Q s7) →
          wpAny (model X.prog X.w) X.A (do bindName X.env n .none; unbindBehindTheSuite X.env n pos') (fun _ s7 => Q s7) X.xe s6 := fun {σ6 H6 Q} S6 hq => gone_ok (S6.unsuite ok) hN hi hln hq
      cases f with
      | next =>
        obtain ⟨σ6, H6, S6, q6⟩ := hsp
        obtain ⟨p1, p2, p3, p4, p5⟩ := S6.pin (a, oe4) (List.mem_append_left _ List.mem_cons_self)
        exact gone_ok (keep_ok (S6.unsuite ok) p1 hz4 hd4 p2 new p3 hpn) hN hi hln fun s7 J7 => ⟨_, _, J7, q6⟩
      | brk =>
        obtain ⟨σ6, H6, S6, q6⟩ := hsp
        exact end_ S6 fun s7 J7 => ⟨_, _, J7, q6⟩
      | cont =>
        obtain ⟨σ6, H6, S6, q6⟩ := hsp
        exact end_ S6 fun s7 J7 => ⟨_, _, J7, q6⟩
      | ret u =>
        obtain ⟨v6, σ6, H6, S6, r6, q6⟩ := hsp
        exact end_ S6 fun s7 J7 => ⟨_, _, _, J7, r6, q6⟩
    | false =>
      show wpAny _ X.A (handleBy (.ref a) X.env []) _ _ _
      refine wpAny_handleBy_nil ?_
      obtain ⟨k1, k2, k3, oe, vs, T, oT, ts', he, hz, hd, h1, hr⟩ := id fl3
      unfold PySem.passOn
      refine wpAny_bind (wpAny_field he hd h1 ?_)
      rw [if_neg (show ¬ ((Value.ref T == Value.none) = true) from by simp)]
      have fin : wpAny (model X.prog X.w) X.A (setFlight (.ref a) X.env.frame) (fun _ s4 => wpAny (model X.prog X.w) X.A (throw (.ref a) : Sem Flow) (SP X pins D) X.xe s4) X.xe { s' with heap := h3 } := by
        rw [hf]
        refine HandSPX.setFlight_upZ fl3 fun h4 hh4 up4 => wpAny_throw (tk _ _ ?_)
        exact ⟨a, B, sI, pins, σ', H', cls, d, rfl, J, nb, (up.trans up3).trans up4, .inr (.inr (by rw [hs]; exact hh4)), na, os, ag, hno rfl⟩
      first
        | exact wpAny_bind (wpAny_pure (wpAny_bind fin))
        | exact wpAny_bind fin
  · cases f with
    | next =>
      obtain ⟨σ', H', J', q⟩ := hsp
      exact wpAny_execs_nil ⟨σ', H', J'.ofTry ok, q⟩
    | brk =>
      obtain ⟨σ', H', J', q⟩ := hsp
      exact ⟨σ', H', J'.ofTry ok, q⟩
    | cont =>
      obtain ⟨σ', H', J', q⟩ := hsp
      exact ⟨σ', H', J'.ofTry ok, q⟩
    | ret u =>
      obtain ⟨v, σ', H', J', r, q⟩ := hsp
      exact ⟨v, σ', H', J'.ofTry ok, r, q⟩
end
/-- what an own error class says, so that a kept error's field f is read -/
def XfA (K : PySem.W.Frag) (f : Str) (C : Addr) : Prop := XfC K C ∧ PySem.W.findIn K (.ref C) f = some none
/-- e.f, e an error that is kept -/
def tXk (K : PySem.W.Frag) (f : Str) (te : TE) : TE := fun σ H Q => te σ H fun x H1 => ∃ (a C dd : Addr) (fs : List (Str × V)) (v : V), x = .ref a ∧ XfA K f C ∧ H1 a = some (exk a (.ref C) (some dd)) ∧ H1 dd = some (.xd fs) ∧ fs.lookup f = some v ∧ Q v H1
theorem pe_xk {X : Cx} {e : Expr} {te : TE} {pos : Pos} {n : Str} (he : PE X e te) (hb : attributeBase e n X.env (eval e X.env) = eval e X.env := by rfl) :
    PE X (.Attribute e n pos) (tXk X.K n te) := by
  refine ⟨fun pins s σ H Q I h => ?_⟩
  refine attr_of hb (thn (he.run pins s σ H _ I h) fun u s1 hh => ?_)
  obtain ⟨x, H1, I1, rx, a, C, dd, fs, v, ex, ⟨T, hno⟩, ek, ea, l, q⟩ := hh
  subst ex
  obtain rfl : u = Value.ref a := rx
  obtain ⟨oe, vs, ha, hz, hd⟩ := exk_at I1.hok ek
  have hx : ObjOk X.prog X.w H1 s1.heap dd (.xd fs) := I1.hok dd _ ea
  obtain ⟨mA, hns, hr⟩ := hx
  obtain ⟨od, ho, hl⟩ := lookIn_ns hns
  obtain ⟨u, hu, ru⟩ := RelO.some_of (v := v) (o := mA n) (by rw [← l]; exact hr n)
  have J : PySem.W.InstAt s1.heap a oe C (some od) := ⟨ha, hz.1, by unfold PySem.W.notCls; rw [hd] <;> rfl, by rw [hz.2]; exact ho⟩
  exact HandSPX.exc_get I1.kIn J T.ga T.gg T.exC (PySem.W.findObj_own T.hdC hno rfl (by rw [hl, hu])) (handed_of ru) ⟨v, H1, I1.tok _, ru, q⟩
/-- isinstance(e, c), e an error that is kept -/
def rIsK (K : PySem.W.Frag) : List V → Hp → VK → Prop := fun xs H Q => ∃ (a D dd : Addr) (fs : List (Str × V)) (c : V) (cv : Value) (b : Bool), xs = [.ref a, c] ∧ ExcC K D ∧ H a = some (exk a (.ref D) (some dd)) ∧ H dd = some (.xd fs) ∧ (∀ u, RelV c u → u = cv) ∧ PySem.W.kitOne K (.ref D) cv = some b ∧ Q (.bl b) H
theorem call_isK {X : Cx} : CallR X (.builtin "isinstance") (rIsK X.K) := by
  intro pins s σ H xs us Q I r h
  obtain ⟨a, D, dd, fs, c, cv, b, rfl, C, ek, ea, hcv, e, q⟩ := h
  cases r with
  | cons rx rr =>
    cases rr with
    | cons rt rr =>
      cases rr
      cases rx
      have ec := hcv _ rt
      subst ec
      obtain ⟨oe, vs, hget, hz, hv⟩ := exk_at I.hok ek
      have hx : ObjOk X.prog X.w H s.heap dd (.xd fs) := I.hok dd _ ea
      obtain ⟨mA, hns, hr⟩ := hx
      obtain ⟨od, ho, hl⟩ := lookIn_ns hns
      have J : PySem.W.InstAt s.heap a oe D (some od) := ⟨hget, hz.1, by unfold PySem.W.notCls; rw [hv] <;> rfl, by rw [hz.2]; exact ho⟩
      exact PySem.W.kia_one (PySem.W.xk_kitx C.hg C.hk C.hs C.hd C.ha C.hn C.ht C.hm) I.kIn J e (fun z => nomatch z) fun tk => ⟨.bl b, H, I.kept (t' := tk) fun _ _ z => z, rfl, q⟩
end XS

/-! what raising an own error with one field asks -/
namespace XE
open PySem PySem.Spec PyProof.Rows L2
/-- the heap behind C(v): the error let go, its dict left -/
theorem mk_heap {H : Hp} {a d : Addr} {o1 o2 o3 o4 : HO} (na : H a = none) (nd : d ≠ a) : upd (del (upd (upd (upd H a o1) d o2) a o3) a) d o4 = upd H d o4 := by
  funext b
  by_cases hb : b = d
  · subst hb; rw [upd_same, upd_same]
  · rw [upd_ne hb, upd_ne hb]
    by_cases ha : b = a
    · subst ha; rw [del_same, na]
    · rw [del_ne ha, upd_ne ha, upd_ne hb, upd_ne ha]
/-- what C(v) asks, C with an own __init__ that stores its one argument -/
theorem init_ends {C : Addr} {f : Str} {v : V} {H1 : Hp} {Q : Value → Option Addr → Hp → Prop} (h : ∀ d, H1 d = none → Q (.ref C) (some d) (upd H1 d (.xd [(f, v)]))) :
    ([v] : List V).length ≤ 1000 ∧ ∀ a, H1 a = none → XS.spInit C f (.ref a :: ([v] ++ [])) (upd H1 a (exo a C none))
      (fun v H2 => v = .non ∧ ∃ (d : Addr) (fs : List (Str × V)), H2 a = some (exo a C (some d)) ∧ H2 d = some (exd d fs) ∧ H1 d = none ∧ Q (.ref C) (some d) (upd (del H2 a) d (.xd fs))) (fun _ _ _ => False) := by
  refine ⟨by simp, fun a na => ⟨a, v, rfl, upd_same, fun dx n ne => ⟨rfl, dx, [(f, v)], upd_same, by rw [upd_ne ne, upd_same], ?_, ?_⟩⟩⟩
  · rw [upd_ne ne] at n; exact n
  · rw [mk_heap na ne]
    rw [upd_ne ne] at n
    exact h dx n
/-- what the text says of the error: its class and its __init__ -/
structure ErrC (K : PySem.W.Frag) (C fI : Addr) (fld : Str) : Prop where
  oex : OexC K C
  iC : PySem.W.findIn K (.ref C) "__init__" = some (some (.ref fI))
  tI : PySem.W.typeIn K (.ref fI) = some (.type "function")
end XE

/-! lists or tuples of ints: max, min, index, slices; len of a set -/
namespace GU
open PySem PySem.Spec PyProof.Rows L2 KA PH
section
variable {prog : Program} {w : World} {A : Around} {E : Value → Shared → Prop} {s : Shared} {l : Addr} {xs : Array (Int × Tok)}
theorem iter_intTup {Q : Value → Shared → Prop} (hl : s.heap.IsTuple l (intItems xs))
    (h : ∀ s₂ : Shared, s₂ = { s with heap := s.heap.push { cls := .type "tuple_iterator", data := .fields #[.ref l, .int 0 0] } } →
      (s₂.heap.IsTupleIter s.heap.objs.size l 0 ∧ s₂.heap.IsTuple l (intItems xs)) → (∀ b ∈ [s.heap.objs.size, l], b < s₂.heap.objs.size) → l ≠ s.heap.objs.size → Q (.ref s.heap.objs.size) s₂) :
    wpAny (model prog w) A (pyIter (.ref l)) Q E s := by
  have hlt : l < s.heap.objs.size := by obtain ⟨_, e, _⟩ := hl; exact Heap.lt_size e
  refine wpAny_pyIter_tuple hl (h _ rfl ⟨⟨_, Heap.get?_push_size _ rfl, rfl, rfl⟩, hl.push _⟩ (fun b hb => ?_) (Nat.ne_of_lt hlt))
  show b < (s.heap.push _).objs.size
  rw [Heap.size_push]
  rcases List.mem_cons.mp hb with rfl | hb
  · exact Nat.lt_succ_self _
  · rcases List.mem_cons.mp hb with rfl | hb
    · exact Nat.lt_succ_of_lt hlt
    · cases hb
theorem old_keptT {h' : Heap} (hk : ∀ b o, b ∉ [s.heap.objs.size] → (s.heap.push { cls := .type "tuple_iterator", data := .fields #[.ref l, .int 0 0] }).get? b = some o → h'.get? b = some o) :
    ∀ b o, s.heap.get? b = some o → h'.get? b = some o := fun b o e => by
  refine hk b o (fun hm => ?_) (Heap.get?_push_of_some _ e)
  rcases List.mem_cons.mp hm with e1 | hm
  · exact absurd (e1 ▸ Heap.lt_size e) (Nat.lt_irrefl _)
  · cases hm
theorem max_intTup {Q : Value → Shared → Prop} (hh : A.handled = none) (hl : s.heap.IsTuple l (intItems xs)) (hne : 0 < xs.size)
    (h : ∀ v h' tk, (intItems xs)[argBest (fun i j => decide (numAt xs i > numAt xs j)) (xs.size - 1)]? = some v → (∀ b o, s.heap.get? b = some o → h'.get? b = some o) → Q v { s with heap := h', toks := tk }) :
    wpAny (model prog w) A (call (.builtin "max") [.ref l]) Q E s := by
  refine call_max_walk (iter_intTup hl fun s₂ e st hfp hlI => ?_)
  subst e
  refine ⟨_, _, _, _, _, _, _, rfl, Walks.tuple (A := A.in1) hh _ l hlI (intItems xs), st, hfp, by simpa [intItems] using hne, CmpOf.ints_gt (numAt xs) (fun _ _ => intItems_at), fun v h' tk hP hk => ?_⟩
  exact h v h' tk (by simpa [intItems] using hP) (old_keptT hk)
theorem min_intTup {Q : Value → Shared → Prop} (hh : A.handled = none) (hl : s.heap.IsTuple l (intItems xs)) (hne : 0 < xs.size)
    (h : ∀ v h' tk, (intItems xs)[argBest (fun i j => decide (numAt xs i < numAt xs j)) (xs.size - 1)]? = some v → (∀ b o, s.heap.get? b = some o → h'.get? b = some o) → Q v { s with heap := h', toks := tk }) :
    wpAny (model prog w) A (call (.builtin "min") [.ref l]) Q E s := by
  refine call_min_walk (iter_intTup hl fun s₂ e st hfp hlI => ?_)
  subst e
  refine ⟨_, _, _, _, _, _, _, rfl, Walks.tuple (A := A.in1) hh _ l hlI (intItems xs), st, hfp, by simpa [intItems] using hne, CmpOf.ints_lt (numAt xs) (fun _ _ => intItems_at), fun v h' tk hP hk => ?_⟩
  exact h v h' tk (by simpa [intItems] using hP) (old_keptT hk)
end
section
variable {prog : Program} {w : World} {A : Around} {E : Value → Shared → Prop} {s : Shared} {l : Addr} {its : List Value} {ns : List Int} {Q : Value → Shared → Prop}
theorem max_rawT (hh : A.handled = none) (hl : IsTup s.heap l its.toArray) (hi : IntsAre its ns) (hne : 0 < ns.length)
    (h : ∀ h' tk M t', (∀ b o, s.heap.get? b = some o → h'.get? b = some o) → M ∈ ns → (∀ a, a ∈ ns → a ≤ M) → Q (.int M t') { s with heap := h', toks := tk }) : wpAny (model prog w) A (call (.builtin "max") [.ref l]) Q E s := by
  obtain ⟨xs, e⟩ := hi.allInts.items
  have hn : numsOf (intItems xs).toList = ns := by rw [← e]; exact hi.numsOf
  rw [nums_intItems] at hn
  subst hn
  rw [e] at hl
  have hsz : 0 < xs.size := by simpa using hne
  have hl2 : s.heap.IsTuple l (intItems xs) := by
    obtain ⟨o, ho, hc, n, hd⟩ := hl
    exact ⟨o, ho, hc, n, hd⟩
  refine max_intTup hh hl2 hsz fun v h' tk hv hk => ?_
  obtain ⟨t, rfl⟩ := intItems_at hv
  obtain ⟨h1, h2⟩ := argBest_gt (numAt xs) (xs.size - 1)
  refine h h' tk _ t hk ?_ fun a ha => ?_
  · rw [numAt_eq]; exact PySem.getD_mem (by rw [List.length_map, Array.length_toList]; omega)
  · obtain ⟨j, hj, rfl⟩ := mem_getD ha
    rw [List.length_map, Array.length_toList] at hj
    rw [← numAt_eq]; exact h2 j (by omega)
theorem min_rawT (hh : A.handled = none) (hl : IsTup s.heap l its.toArray) (hi : IntsAre its ns) (hne : 0 < ns.length)
    (h : ∀ h' tk M t', (∀ b o, s.heap.get? b = some o → h'.get? b = some o) → M ∈ ns → (∀ a, a ∈ ns → M ≤ a) → Q (.int M t') { s with heap := h', toks := tk }) : wpAny (model prog w) A (call (.builtin "min") [.ref l]) Q E s := by
  obtain ⟨xs, e⟩ := hi.allInts.items
  have hn : numsOf (intItems xs).toList = ns := by rw [← e]; exact hi.numsOf
  rw [nums_intItems] at hn
  subst hn
  rw [e] at hl
  have hsz : 0 < xs.size := by simpa using hne
  have hl2 : s.heap.IsTuple l (intItems xs) := by
    obtain ⟨o, ho, hc, n, hd⟩ := hl
    exact ⟨o, ho, hc, n, hd⟩
  refine min_intTup hh hl2 hsz fun v h' tk hv hk => ?_
  obtain ⟨t, rfl⟩ := intItems_at hv
  obtain ⟨h1, h2⟩ := argBest_lt (numAt xs) (xs.size - 1)
  refine h h' tk _ t hk ?_ fun a ha => ?_
  · rw [numAt_eq]; exact PySem.getD_mem (by rw [List.length_map, Array.length_toList]; omega)
  · obtain ⟨j, hj, rfl⟩ := mem_getD ha
    rw [List.length_map, Array.length_toList] at hj
    rw [← numAt_eq]; exact h2 j (by omega)
end
section
variable {X : Cx}
/-- one of two readings -/
theorem pe_either {e : Expr} {t u : TE} (h : PE X e t) (g : PE X e u) : PE X e (fun σ H Q => t σ H Q ∨ u σ H Q) :=
  ⟨fun pins s σ H Q I q => q.elim (h.run pins s σ H Q I) (g.run pins s σ H Q I)⟩
/-- max(xs), min(xs) of a list or a tuple of ints -/
def rMaxS (K : PySem.W.Frag) : List V → Hp → VK → Prop := fun vs H Q => ∃ (a : Addr) (ns : List Int), vs = [V.ref a] ∧ Sq K H a (ns.map V.int) ∧ 0 < ns.length ∧ ∀ m, m ∈ ns → (∀ y, y ∈ ns → y ≤ m) → Q (.int m) H
def rMinS (K : PySem.W.Frag) : List V → Hp → VK → Prop := fun vs H Q => ∃ (a : Addr) (ns : List Int), vs = [V.ref a] ∧ Sq K H a (ns.map V.int) ∧ 0 < ns.length ∧ ∀ m, m ∈ ns → (∀ y, y ∈ ns → m ≤ y) → Q (.int m) H
theorem cr_maxS (hc : X.calm = true) : CallR X (.builtin "max") (rMaxS X.K) := by
  intro pins s σ H vs us Q I r h
  obtain ⟨a, ns, rfl, hs | hs, hne, q⟩ := h
  · exact cr_max hc pins s σ H _ us Q I r ⟨a, ns, rfl, hs, hne, q⟩
  · obtain ⟨its, rv, hl, _⟩ := I.tuple hs
    rw [Vals.ref1 r]
    exact max_rawT (I.ok.hd hc) hl rv.ints hne fun h' tk m t' hk h1 h2 => ⟨.int _, H, I.kept hk, ⟨_, rfl⟩, q m h1 h2⟩
theorem cr_minS (hc : X.calm = true) : CallR X (.builtin "min") (rMinS X.K) := by
  intro pins s σ H vs us Q I r h
  obtain ⟨a, ns, rfl, hs | hs, hne, q⟩ := h
  · exact cr_min hc pins s σ H _ us Q I r ⟨a, ns, rfl, hs, hne, q⟩
  · obtain ⟨its, rv, hl, _⟩ := I.tuple hs
    rw [Vals.ref1 r]
    exact min_rawT (I.ok.hd hc) hl rv.ints hne fun h' tk m t' hk h1 h2 => ⟨.int _, H, I.kept hk, ⟨_, rfl⟩, q m h1 h2⟩
/-- xs[lo:hi] of a list or a tuple -/
def rSlS (K : PySem.W.Frag) : V → Option Int → Option Int → Hp → VK → Prop := fun x lo hi H Q => ∃ a xs, x = .ref a ∧ Sq K H a xs ∧ ∀ H' p, Same H H' → Sq K H' p (cutV xs lo hi) → Q (.ref p) H'
theorem cut_whole {xs : List V} {lo hi : Option Int} (h : HT.sIx xs.length 0 lo = 0 ∧ HT.sIx xs.length xs.length hi = xs.length) : cutV xs lo hi = xs := by
  unfold cutV
  rw [h.1, h.2, List.drop_zero, Nat.sub_zero, List.take_length]
theorem sl_S : SlR X (rSlS X.K) := by
  intro pins s σ H x v vl vu lo hi sl Q I rx hs pl pu h
  obtain ⟨a, xs, rfl, hS | hS, q⟩ := h
  · exact sl_list pins s σ H _ v vl vu lo hi sl Q I rx hs pl pu ⟨a, xs, rfl, hS, fun p np => q _ p (same_new np) (.inl (SqL.of upd_same))⟩
  · exact sl_tupA pins s σ H _ v vl vu lo hi sl Q I rx hs pl pu ⟨a, xs, rfl, hS, fun w => q H a (Same.refl H) (by rw [cut_whole w]; exact .inr hS), fun _ p np => q _ p (same_new np) (.inr (SqT.of upd_same))⟩
/-- xs.index(y) of ints -/
def rIdxL (K : PySem.W.Frag) : V → List V → Hp → VK → Prop := fun x xs H Q => ∃ (a : Addr) (ns : List Int) (y : Int) (j : Nat), x = V.ref a ∧ xs = [V.int y] ∧ SqL K H a (ns.map V.int) ∧ ns[j]? = some y ∧ (∀ m z, m < j → ns[m]? = some z → z ≠ y) ∧ Q (.int (j : Nat)) H
def rIdxT (K : PySem.W.Frag) : V → List V → Hp → VK → Prop := fun x xs H Q => ∃ (a : Addr) (ns : List Int) (y : Int) (j : Nat), x = V.ref a ∧ xs = [V.int y] ∧ SqT K H a (ns.map V.int) ∧ ns[j]? = some y ∧ (∀ m z, m < j → ns[m]? = some z → z ≠ y) ∧ Q (.int (j : Nat)) H
theorem flat_ints (ns : List Int) : (ns.map V.int).all flatV = true := by
  rw [List.all_map]
  exact List.all_eq_true.mpr fun _ _ => rfl
theorem mt_idxL : MtR X "list.index" (rIdxL X.K) := by
  intro pins s σ H x xs v us Q I rx rxs h
  obtain ⟨a, ns, y, j, rfl, rfl, hs, hy, hno, q⟩ := h
  refine mt_index pins s σ H _ _ v us Q I rx rxs ⟨a, ns.map V.int, .int y, j, .int y, rfl, rfl, hs, rfl, flat_ints ns, at_int hy, beq_self_eq_true y, fun m z hm hz => ?_, q⟩
  obtain ⟨r, hr, rfl⟩ := int_at hz
  exact beq_eq_false_iff_ne.mpr (hno m r hm hr)
theorem mt_idxT : MtR X "tuple.index" (rIdxT X.K) := by
  intro pins s σ H x xs v us Q I rx rs h
  obtain ⟨p, ys, z, j, rfl, rfl, hq, hy, hno, q⟩ := h
  cases rx
  obtain ⟨u, rfl, t, rfl⟩ := vals1 rs
  obtain ⟨its, r, pl, hz⟩ := I.tuple hq
  obtain ⟨⟨cls, dd, dt, sl⟩, ho, hc, n, hd⟩ := pl
  simp only at hc hd
  subst hc
  subst hd
  have hl : its.toArray.size = ys.length := by rw [List.size_toArray, ← r.length, List.length_map]
  have hj : j < its.toArray.size := by rw [hl]; exact (List.getElem?_eq_some_iff.mp hy).1
  have at' : ∀ (m : Nat) (hm : m < its.toArray.size), ∃ y t', ys[m]? = some y ∧ its.toArray[m] = Value.int y t' := fun m hm => by
    have hm' : m < ys.length := by rw [← hl]; exact hm
    obtain ⟨w, hw, t', hw'⟩ := r.get (i := m) (x := .int ys[m]) (by simp [hm'])
    refine ⟨ys[m], t', List.getElem?_eq_getElem hm', ?_⟩
    have e := (List.getElem?_eq_some_iff.mp hw).2
    rw [← hw', ← e]
    simp
  refine call_meets PySem.F.slot_tuple_index ⟨_, ho, rfl⟩ PySem.F.entry_tuple_index (PySem.F.args_tuple_index_2 _ _) (TI.tuple_indexAt p its.toArray n dd sl (.int z t) (eqU (.int z)) j hj ?_ ?_)
    ⟨ho, fun w hw => mem_eqAt (x := .int z) ⟨t, rfl⟩ rfl r (flat_ints ys) w (by simpa using hw), ⟨.int (j : Nat), H, I.tok _, ⟨_, rfl⟩, q⟩⟩
  · obtain ⟨y, t', h1, h2⟩ := at' j hj
    rw [hy] at h1
    cases h1
    rw [h2]
    show (z == z) = true
    exact beq_self_eq_true z
  · intro m hm hmj
    obtain ⟨y, t', h1, h2⟩ := at' m hm
    rw [h2]
    show (y == z) = false
    exact beq_eq_false_iff_ne.mpr (hno m y hmj h1)
/-- len(s) of a set of ints -/
def rLenSet (w : World) : List V → Hp → VK → Prop := fun vs H Q => ∃ (a : Addr) (S : Int → Bool) (n : Nat), vs = [V.ref a] ∧ H a = some (SetO w a S n) ∧ n < 2 ^ 40 ∧ ((∃ ks : List Int, ks.Nodup ∧ ks.length = n ∧ ∀ k, k ∈ ks ↔ S k = true) → Q (.int (n : Nat)) H)
theorem cr_lenSet : CallR X (.builtin "len") (rLenSet X.w) := by
  intro pins s σ H vs us Q I r h
  obtain ⟨a, S, n, rfl, ha, hn, q⟩ := h
  rw [Vals.ref1 r]
  obtain ⟨o, es, ep, t, ho, hex, hd, h1, h2, h3, h4, hf, hsz, _⟩ := setO_get I ha
  refine call_len_set ho hex hd hf (by omega) ⟨.int (n : Nat), H, I.tok _, ⟨_, by rw [hsz]⟩, q ⟨es.toList.map keyOf, h2, by rw [List.length_map, Array.length_toList, hsz], fun k => (h3 k).symm⟩⟩
end
end GU

set_option pp.maxSteps 900
/-! words that are numbers; a count read from a text -/
namespace Y7X
open PySem PySem.Spec PyProof.Rows L2 KA PH PM PA PB PC RM RN QE QF QG QH QK QL XE
open NX (isNum rdw tI)
abbrev sNU : Stmt := topS 5
abbrev sRD : Stmt := topS 6
abbrev sNM : Stmt := topS 16
abbrev sRO : Stmt := topS 17
abbrev sCI : Stmt := topS 29
abbrev sCY : Stmt := topS 28
abbrev sPT : Stmt := topS 30
abbrev sAL : Stmt := topS 23
abbrev sOU : Stmt := topS 24
abbrev sPA : Stmt := inClass sClass 3
theorem scNU : FnScope ["value"] ["value"] (defScope sNU) := ⟨rfl, rfl, rfl, by decide +kernel, rfl, by decide +kernel, by decide +kernel⟩
theorem scRD : FnScope ["value"] ["value"] (defScope sRD) := ⟨rfl, rfl, rfl, by decide +kernel, rfl, by decide +kernel, by decide +kernel⟩
theorem scNM : FnScope ["word", "digits"] ["word"] (defScope sNM) := ⟨rfl, rfl, rfl, by decide +kernel, rfl, by decide +kernel, by decide +kernel⟩
theorem scRO : FnScope ["word", "reading"] ["word"] (defScope sRO) := ⟨rfl, rfl, rfl, by decide +kernel, rfl, by decide +kernel, by decide +kernel⟩
theorem scCI : FnScope ["word", "first", "_", "second", "low", "high"] ["word"] (defScope sCI) := ⟨rfl, rfl, rfl, by decide +kernel, rfl, by decide +kernel, by decide +kernel⟩
theorem scCY : FnScope ["row", "cycles", "word"] ["row"] (defScope sCY) := ⟨rfl, rfl, rfl, by decide +kernel, rfl, by decide +kernel, by decide +kernel⟩
theorem scPT : FnScope ["row", "points", "word"] ["row"] (defScope sPT) := ⟨rfl, rfl, rfl, by decide +kernel, rfl, by decide +kernel, by decide +kernel⟩
theorem scAL : FnScope ["points"] ["points"] (defScope sAL) := ⟨rfl, rfl, rfl, by decide +kernel, rfl, by decide +kernel, by decide +kernel⟩
theorem scOU : FnScope ["cycles", "rest", "whole", "cycle"] ["cycles", "rest"] (defScope sOU) := ⟨rfl, rfl, rfl, by decide +kernel, rfl, by decide +kernel, by decide +kernel⟩
theorem scPA : FnScope ["cls", "text", "rows", "cycles", "points"] ["cls", "text"] (defScope sPA) := ⟨rfl, rfl, rfl, by decide +kernel, rfl, by decide +kernel, by decide +kernel⟩
open NZ (cyw cyr rsr allS OkC)
theorem hu_of {k : Nat} {A : Around} (r : Room k A) : A.units + 100 < cLine := by have := r.un; omega
def optV : Option Int → V
  | none => .non | some s => .int s
theorem opt_flat (os : List (Option Int)) : (os.map optV).all flatV = true := by
  rw [List.all_eq_true]
  intro v hv
  obtain ⟨o, _, rfl⟩ := List.mem_map.mp hv
  cases o <;> rfl
theorem opt_in : ∀ os : List (Option Int), inV .non (os.map optV) = os.any Option.isNone
  | [] => rfl
  | none :: os => rfl
  | some n :: os => by
    have := opt_in os
    show (eqV (.int n) .non || inV .non (os.map optV)) = (false || os.any Option.isNone)
    rw [this]
    rfl
theorem any_allS {α : Type} : ∀ {os : List (Option α)}, os.any Option.isNone = (allS os).isNone
  | [] => rfl
  | none :: os => rfl
  | some a :: os => by
    show (false || os.any Option.isNone) = ((allS os).map (a :: ·)).isNone
    rw [any_allS (os := os), Option.isNone_map]
    rfl
theorem strs_at {ws : List Str} {i : Nat} {y : V} (h : (ws.map V.str)[i]? = some y) : ∃ w, ws[i]? = some w ∧ y = .str w := by
  rw [List.getElem?_map] at h
  cases e : ws[i]? with
  | none => rw [e] at h; cases h
  | some r => rw [e] at h; exact ⟨r, rfl, (Option.some.inj h).symm⟩
theorem ev_prs (as bs : List (Int × Int)) : PyData.eqv (.list (dPairs as)) (.list (dPairs bs)) = decide (as = bs) := by
  rw [← QL.ev_pairs]; simp [PyData.eqv]
theorem ev_ints : ∀ as bs : List Int, PyData.eqvAll (dInts as) (dInts bs) = decide (as = bs)
  | [], [] => by simp [dInts, PyData.eqvAll]
  | [], _ :: _ => by simp [dInts, PyData.eqvAll]
  | _ :: _, [] => by simp [dInts, PyData.eqvAll]
  | a :: as, b :: bs => by
    have ih := ev_ints as bs
    show (PyData.eqv (.int a) (.int b) && PyData.eqvAll (dInts as) (dInts bs)) = _
    rw [ih]
    by_cases h1 : a = b <;> by_cases h2 : as = bs <;> simp [h1, h2, PyData.eqv, Bool.beq_eq_decide_eq]
theorem ev_lst (as bs : List Int) : PyData.eqv (.list (dInts as)) (.list (dInts bs)) = decide (as = bs) := by
  rw [← ev_ints]; simp [PyData.eqv]
/-! a list of ranges and None -/
def PAt (H : Hp) : List V → List (Option (Int × Int)) → Prop
  | [], [] => True
  | x :: xs, o :: os => (match o with | none => x = .non | some r => ∃ p, x = .ref p ∧ H p = some (.tup [.int r.1, .int r.2])) ∧ PAt H xs os
  | _, _ => False
theorem PAt.mp {H H' : Hp} (k : ∀ p (r : Int × Int), H p = some (.tup [.int r.1, .int r.2]) → H' p = some (.tup [.int r.1, .int r.2])) : ∀ {xs : List V} {os : List (Option (Int × Int))}, PAt H xs os → PAt H' xs os
  | [], [], _ => trivial
  | _ :: _, none :: _, ⟨h1, h⟩ => ⟨h1, h.mp k⟩
  | _ :: _, some _ :: _, ⟨⟨p, h1, h2⟩, h⟩ => ⟨⟨p, h1, k p _ h2⟩, h.mp k⟩
  | [], _ :: _, h => h.elim
  | _ :: _, [], h => h.elim
theorem PAt.same {H H' : Hp} {xs : List V} {os : List (Option (Int × Int))} (h : PAt H xs os) (s : Same H H') : PAt H' xs os := h.mp fun p e q => s _ _ q
theorem PAt.app {H : Hp} : ∀ {xs ys : List V} {os ps : List (Option (Int × Int))}, PAt H xs os → PAt H ys ps → PAt H (xs ++ ys) (os ++ ps)
  | [], _, [], _, _, g => g
  | _ :: _, _, _ :: _, _, ⟨h1, h⟩, g => ⟨h1, h.app g⟩
  | [], _, _ :: _, _, h, _ => h.elim
  | _ :: _, _, [], _, h, _ => h.elim
theorem PAt.len {H : Hp} : ∀ {xs : List V} {os : List (Option (Int × Int))}, PAt H xs os → xs.length = os.length
  | [], [], _ => rfl
  | _ :: _, _ :: _, ⟨_, h⟩ => congrArg (· + 1) h.len
  | [], _ :: _, h => h.elim
  | _ :: _, [], h => h.elim
theorem PAt.pairs {H : Hp} : ∀ {xs : List V} {cs : List (Int × Int)}, PAt H xs (cs.map some) → PairsAt H xs cs
  | [], [], _ => trivial
  | _ :: _, _ :: _, ⟨h1, h⟩ => ⟨h1, h.pairs⟩
  | [], _ :: _, h => h.elim
  | _ :: _, [], h => h.elim
def dP : Option (Int × Int) → PyData
  | none => .none
  | some e => .tuple [.int e.1, .int e.2]
def dPs (os : List (Option (Int × Int))) : List PyData := os.map dP
theorem dp_ps {K : PySem.W.Frag} {H : Hp} : ∀ {xs : List V} {os : List (Option (Int × Int))}, PAt H xs os → DpAll K H xs (dPs os)
  | [], [], _ => .nil
  | x :: xs, none :: os, ⟨h1, h⟩ => by
    subst h1
    exact .cons .non (dp_ps h)
  | x :: xs, some e :: os, ⟨⟨p, h1, h2⟩, h3⟩ => by
    subst h1
    exact .cons (.tup (SqT.of h2) (.cons (.int _) (.cons (.int _) .nil))) (dp_ps h3)
  | [], _ :: _, h => h.elim
  | _ :: _, [], h => h.elim
theorem lay_ps : ∀ os : List (Option (Int × Int)), PyData.canLayAll0 (dPs os) = true
  | [] => rfl
  | none :: os => by
    show (PyData.canLay0 .none && PyData.canLayAll0 (dPs os)) = true
    rw [lay_ps os]
    simp only [PyData.canLay0, Bool.and_true]
  | some e :: os => by
    show (PyData.canLay0 (.tuple [.int e.1, .int e.2]) && PyData.canLayAll0 (dPs os)) = true
    rw [lay_ps os]
    simp only [PyData.canLay0, PyData.canLayAll0, Bool.and_true]
theorem depth_ps : ∀ os : List (Option (Int × Int)), PyData.depthAll (dPs os) ≤ 3
  | [] => Nat.zero_le _
  | none :: os => by
    have h := depth_ps os
    show max (PyData.depth .none) (PyData.depthAll (dPs os)) ≤ 3
    simp only [PyData.depth]
    omega
  | some e :: os => by
    have h := depth_ps os
    show max (PyData.depth (.tuple [.int e.1, .int e.2])) (PyData.depthAll (dPs os)) ≤ 3
    simp only [PyData.depth, PyData.depthAll]
    omega
theorem shaped_ps (os : List (Option (Int × Int))) : SeqAt.shaped (.list (dPs os)) = true :=
  shaped_of (by simp only [PyData.canLay0, lay_ps]) (by have := depth_ps os; simp only [PyData.depth]; omega)
theorem dP_none (o : Option (Int × Int)) : PyData.eqv (dP o) .none = o.isNone := by
  cases o <;> rfl
theorem any_ps (os : List (Option (Int × Int))) : ((dPs os).any fun z => PyData.eqv z .none) = (allS os).isNone := by
  rw [← any_allS]
  unfold dPs
  rw [List.any_map]
  congr 1
  funext o
  exact dP_none o
/-! what is left; what lies outside -/
def leftB (ns : List Int) : Bool := decide (tp ns = ns) && (plc ns).isEmpty
theorem run_nil {p q : List Int} (h : Run p [] q) : p = q := by cases h; rfl
theorem left_iff {ns rs : List Int} {cs : List (Int × Int)} (r : Run (tp ns) cs rs) (n : NF rs) : leftB ns = decide (rs = ns) := by
  unfold leftB
  by_cases e : rs = ns
  · subst e
    have l1 := r.len
    have l2 := tp_len rs
    have c0 : cs = [] := List.length_eq_zero_iff.mp (by omega)
    subst c0
    have e2 : tp rs = rs := run_nil r
    rw [decide_eq_true e2, plc_of_nf n]
    simp
  · rw [decide_eq_false e]
    by_cases e2 : tp ns = ns
    · cases hp : plc ns with
      | cons _ _ => simp
      | nil =>
        have nf := nf_of_plc hp
        rw [e2] at r
        cases r with
        | nil => exact absurd rfl e
        | cons s _ => exact absurd s (nf _ _)
    · rw [decide_eq_false e2]
      rfl
/-- whether all cycles lie in the range of the rest -/
def inB (cs : List (Int × Int)) (ns : List Int) : Bool := cs.all fun r => ns.any (fun x => decide (x ≤ r.1)) && ns.any (fun x => decide (r.2 ≤ x))
theorem pr_at {H : Hp} : ∀ {xs : List V} {cs : List (Int × Int)} {i : Nat} {x : V}, PairsAt H xs cs → xs[i]? = some x → ∃ r p, cs[i]? = some r ∧ x = .ref p ∧ H p = some (.tup [.int r.1, .int r.2])
  | [], _, _, _, _, h => by simp at h
  | _ :: _, [], _, _, h, _ => h.elim
  | _ :: _, r :: _, 0, x, ⟨⟨p, e, h⟩, _⟩, hx => ⟨r, p, rfl, by rw [← e]; exact (Option.some.inj hx).symm, h⟩
  | _ :: _, _ :: _, i + 1, x, ⟨_, h⟩, hx => pr_at (i := i) h hx
theorem any_min {ns : List Int} {m c : Int} (h1 : m ∈ ns) (h2 : ∀ y, y ∈ ns → m ≤ y) : ns.any (fun x => decide (x ≤ c)) = decide (m ≤ c) := by
  by_cases k : m ≤ c
  · rw [decide_eq_true k]
    exact List.any_eq_true.mpr ⟨m, h1, decide_eq_true k⟩
  · rw [decide_eq_false k]
    refine Bool.eq_false_iff.mpr fun z => ?_
    obtain ⟨y, hy, hz⟩ := List.any_eq_true.mp z
    have := h2 y hy
    have := of_decide_eq_true hz
    omega
theorem any_max {ns : List Int} {m c : Int} (h1 : m ∈ ns) (h2 : ∀ y, y ∈ ns → y ≤ m) : ns.any (fun x => decide (c ≤ x)) = decide (c ≤ m) := by
  by_cases k : c ≤ m
  · rw [decide_eq_true k]
    exact List.any_eq_true.mpr ⟨m, h1, decide_eq_true k⟩
  · rw [decide_eq_false k]
    refine Bool.eq_false_iff.mpr fun z => ?_
    obtain ⟨y, hy, hz⟩ := List.any_eq_true.mp z
    have := h2 y hy
    have := of_decide_eq_true hz
    omega
theorem inB_take {cs : List (Int × Int)} {ns : List Int} {i : Nat} {r : Int × Int} (e : cs[i]? = some r) : inB (cs.take (i + 1)) ns = (inB (cs.take i) ns && (ns.any (fun x => decide (x ≤ r.1)) && ns.any (fun x => decide (r.2 ≤ x)))) := by
  unfold inB
  rw [List.take_add_one, e, Option.toList_some, List.all_append]
  simp
/-! the count that a text is of, or the row that is not of its form -/
open Classical in
noncomputable def okC (r : Str) : Option (List (Int × Int)) := match allS (cyr r) with
  | some cs => if cs.Pairwise Le then some cs else none
  | none => none
theorem okC_none {r : Str} (h : allS (cyr r) = none) : okC r = none := by unfold okC; rw [h]
theorem okC_yes {r : Str} {cs : List (Int × Int)} (h : allS (cyr r) = some cs) (s : cs.Pairwise Le) : okC r = some cs := by unfold okC; rw [h]; exact if_pos s
theorem okC_no {r : Str} {cs : List (Int × Int)} (h : allS (cyr r) = some cs) (s : ¬ cs.Pairwise Le) : okC r = none := by unfold okC; rw [h]; exact if_neg s
theorem okC_some {r : Str} {cs : List (Int × Int)} (h : okC r = some cs) : allS (cyr r) = some cs ∧ cs.Pairwise Le := by
  cases e : allS (cyr r) with
  | none => rw [okC_none e] at h; cases h
  | some ds =>
    by_cases s : ds.Pairwise Le
    · rw [okC_yes e s] at h; cases h; exact ⟨rfl, s⟩
    · rw [okC_no e s] at h; cases h
noncomputable def pcr : List Str → Nat ⊕ (List (Int × Int) × List Int)
  | [] => .inl 0
  | r0 :: more => match okC r0 with
    | none => .inl 0
    | some cs => match more with
      | [] => .inl 1
      | r1 :: rest => match allS (rsr r1) with
        | none => .inl 1
        | some rs => match rest with
          | _ :: _ => .inl 2
          | [] => if leftB rs = true then (if inB cs rs = true then .inr (cs, rs) else .inl 0) else .inl 1
noncomputable def pcn (x : Str) : Nat ⊕ (List (Int × Int) × List Int) := pcr (Txt.split x "\n")
structure CntOk (cs : List (Int × Int)) (rs : List Int) : Prop where
  ok : ∀ c ∈ cs, OkC c
  sm : ∀ n ∈ rs, n.natAbs ≤ 1000000000
  srt : cs.Pairwise Le
  lf : leftB rs = true
  ib : inB cs rs = true
theorem pcn_back {x : Str} {cs : List (Int × Int)} {rs : List Int} (h : pcn x = .inr (cs, rs)) : x = NZ.txt cs rs ∧ CntOk cs rs := by
  unfold pcn at h
  cases e0 : Txt.split x "\n" with
  | nil => rw [e0] at h; cases h
  | cons r0 more =>
    rw [e0] at h
    unfold pcr at h
    dsimp only at h
    cases e1 : okC r0 with
    | none => rw [e1] at h; cases h
    | some ds =>
      rw [e1] at h
      cases more with
      | nil => cases h
      | cons r1 rest =>
        dsimp only at h
        cases e2 : allS (rsr r1) with
        | none => rw [e2] at h; cases h
        | some ss =>
          rw [e2] at h
          cases rest with
          | cons _ _ => cases h
          | nil =>
            dsimp only at h
            by_cases c1 : leftB ss = true
            · rw [if_pos c1] at h
              by_cases c2 : inB ds ss = true
              · rw [if_pos c2] at h
                cases h
                obtain ⟨a1, a2⟩ := okC_some e1
                obtain ⟨b1, b2⟩ := NZ.cyr_back (NZ.allS_some a1)
                obtain ⟨d1, d2⟩ := NZ.rsr_back (NZ.allS_some e2)
                refine ⟨?_, b2, d2, a2, c1, c2⟩
                rw [← NY.join_split NX.nlk NZ.nlkk x, e0, b1, d1]
                rfl
              · rw [if_neg c2] at h; cases h
            · rw [if_neg c1] at h; cases h
theorem pcn_of {cs : List (Int × Int)} {rs : List Int} (g : CntOk cs rs) : pcn (NZ.txt cs rs) = .inr (cs, rs) := by
  unfold pcn
  rw [NZ.split_txt]
  unfold pcr
  dsimp only
  rw [okC_yes (by rw [NZ.cyr_of g.ok]; exact NZ.allS_map cs) g.srt]
  dsimp only
  rw [show allS (rsr (NZ.rowP rs)) = some rs by rw [NZ.rsr_of g.sm]; exact NZ.allS_map rs]
  dsimp only
  rw [if_pos g.lf, if_pos g.ib]
theorem cyr_len (r : Str) : (cyr r).length ≤ r.length + 1 := by
  unfold NZ.cyr
  split
  · exact Nat.zero_le _
  · rw [List.length_map]; exact NY.split_count NX.blk NZ.blkk r
theorem rsr_len (r : Str) : (rsr r).length ≤ r.length + 1 := by
  unfold NZ.rsr
  split
  · exact Nat.zero_le _
  · rw [List.length_map]; exact NY.split_count NX.blk NZ.blkk r
theorem allS_len {α : Type} {os : List (Option α)} {as : List α} (h : allS os = some as) : as.length = os.length := by
  rw [NZ.allS_some h, List.length_map]
theorem okC_len {r : Str} {cs : List (Int × Int)} (h : okC r = some cs) : cs.length ≤ r.length + 1 := by
  rw [allS_len (okC_some h).1]; exact cyr_len r
section
variable {r0 r1 : Str} {more rest : List Str} {cs : List (Int × Int)} {rs : List Int}
theorem pcr_0 (h : okC r0 = none) : pcr (r0 :: more) = .inl 0 := by unfold pcr; dsimp only; rw [h]
theorem pcr_1 (h : okC r0 = some cs) : pcr [r0] = .inl 1 := by unfold pcr; dsimp only; rw [h]
theorem pcr_2 (h : okC r0 = some cs) (h1 : allS (rsr r1) = none) : pcr (r0 :: r1 :: rest) = .inl 1 := by unfold pcr; dsimp only; rw [h]; dsimp only; rw [h1]
theorem pcr_3 (h : okC r0 = some cs) (h1 : allS (rsr r1) = some rs) {x : Str} : pcr (r0 :: r1 :: x :: rest) = .inl 2 := by unfold pcr; dsimp only; rw [h]; dsimp only; rw [h1]
theorem pcr_4 (h : okC r0 = some cs) (h1 : allS (rsr r1) = some rs) (h2 : leftB rs = false) : pcr [r0, r1] = .inl 1 := by unfold pcr; dsimp only; rw [h]; dsimp only; rw [h1]; dsimp only; rw [h2]; rfl
theorem pcr_5 (h : okC r0 = some cs) (h1 : allS (rsr r1) = some rs) (h2 : leftB rs = true) (h3 : inB cs rs = false) : pcr [r0, r1] = .inl 0 := by unfold pcr; dsimp only; rw [h]; dsimp only; rw [h1]; dsimp only; rw [h2, h3]; rfl
theorem pcr_6 (h : okC r0 = some cs) (h1 : allS (rsr r1) = some rs) (h2 : leftB rs = true) (h3 : inB cs rs = true) : pcr [r0, r1] = .inr (cs, rs) := by unfold pcr; dsimp only; rw [h]; dsimp only; rw [h1]; dsimp only; rw [h2, h3]; rfl
end
section
variable {P : Program} {w : World} {K : PySem.W.Frag} {mg : Str → Option Value} {base : Heap}
def spNU : Sp := fun vs H Q _ => ∃ z : Int, vs = [.int z] ∧ Q (.bl true) H
theorem ok_NU {f : Addr} {fd : FuncData} {k : Nat} (F : Fun K "is_number" "is_number" sNU f fd) (ms : mg "isinstance" = none) (mi : mg "int" = none) (mb : mg "bool" = none) : FnOk P w K mg base CX0 (k + 1) f fd ["value"] spNU := by
  refine F.ok scNU (fun vs H Q E h => ?_) (fun cdv A outer s H vs Q E hr h => ?_)
  · obtain ⟨z, rfl, _⟩ := h
    rfl
  · obtain ⟨z, rfl, hq⟩ := h
    refine ⟨_, (pss_one (ps_ret (pe_and (pe_callB call_isi (by rfl) ms (by decide +kernel) (pa_cons (pv 0) (pa_cons (pe_bltn (v := .ty "int") (by rfl) mi (by decide +kernel) rfl) pa_nil))) (pe_one (pe_not (pe_callB call_isi (by rfl) ms (by decide +kernel) (pa_cons (pv 0) (pa_cons (pe_bltn (v := .ty "bool") (by rfl) mb (by decide +kernel) rfl) pa_nil)))))))), ?_⟩
    refine ⟨.int z, rfl, _, .ty "int", .type "int", .type "int", true, rfl, .ty "int", .base (.int _), kit_ty (by decide +kernel), true, rfl, iteT ?_⟩
    exact ⟨.int z, rfl, _, .ty "bool", .type "int", .type "bool", false, rfl, .ty "bool", .base (.int _), kit_ty (by decide +kernel), false, rfl, hq⟩
def spRD : Sp := fun vs H Q _ => ∃ z : Int, vs = [.int z] ∧ Q (.bl (decide (z.natAbs ≤ 1000000000))) H
theorem ok_RD {f : Addr} {fd : FuncData} {fNU : Addr} {dNU : FuncData} {k : Nat} (F : Fun K "is_reading" "is_reading" sRD f fd) (GNU : FnOk P w K mg base CX0 (k + 1) fNU dNU ["value"] spNU) (gNU : mg "is_number" = some (.ref fNU)) (kNU : PySem.W.keepIn K (.ref fNU) = true) (bNU : Binds K dNU ["value"] []) (ma : mg "abs" = none) (gL : ∃ u, mg "LIMIT" = some u ∧ RelV (.int 1000000000) u) : FnOk P w K mg base CX0 (k + 2) f fd ["value"] spRD := by
  refine F.ok scRD (fun vs H Q E h => ?_) (fun cdv A outer s H vs Q E hr h => ?_)
  · obtain ⟨z, rfl, _⟩ := h
    rfl
  · obtain ⟨z, rfl, hq⟩ := h
    refine ⟨_, (pss_one (ps_ret (pe_and (pe_call GNU hr (by rfl) gNU kNU bNU .nil pass0 (pa_cons (pv 0) pa_nil)) (pe_one (pe_cmpR op_le (pe_callB call_abs (by rfl) ma (by decide +kernel) (pa_cons (pv 0) pa_nil)) (C8.pe_gc (v := .int 1000000000) (by rfl) gL) (nomark _)))))), ?_⟩
    refine ⟨.int z, rfl, z, rfl, _, rfl, iteT ⟨.int z, rfl, _, rfl, _, _, rfl, rfl, ?_⟩⟩
    show Q (V.bl (decide _)) H
    have e : decide ((if z < 0 then -z else z) ≤ 1000000000) = decide (z.natAbs ≤ 1000000000) := by
      congr 1
      apply propext
      split <;> omega
    rw [e]
    exact hq
def spNM : Sp := fun vs H Q _ => ∃ x : Str, vs = [.str x] ∧ x.length ≤ 4300 ∧ Q (.bl (isNum x)) H
theorem ok_NM {f : Addr} {fd : FuncData} {k : Nat} (F : Fun K "is_numeral" "is_numeral" sNM f fd)  : FnOk P w K mg base CX0 (k + 1) f fd ["word"] spNM := by
  refine F.ok scNM (fun vs H Q E h => ?_) (fun cdv A outer s H vs Q E hr h => ?_)
  · obtain ⟨x, rfl, _⟩ := h
    rfl
  · obtain ⟨x, rfl, hl, hq⟩ := h
    refine ⟨_, (pss_cons (ps_set (i := 1) scNM.nd rfl (.inl rfl) (pe_m1 PySem.F.slot_str_removeprefix PySem.F.type_str_removeprefix mt_removeprefix (pv 0) pe_str))
      (pss_cons (ps_if (PW.pt (pw_or (pt_not (pt_val (pe_m0 PySem.F.slot_str_isascii PySem.F.type_str_isascii mt_isascii (pv 1)))) (pw_or1 (pt_not (pt_val (pe_m0 PySem.F.slot_str_isdigit PySem.F.type_str_isdigit mt_isdigit (pv 1))))))) (pss_one (ps_ret pe_bl)) pss_nil)
      (pss_one (ps_ret (pe_or (pe_cmpR op_eq (pv 0) pe_str (nomark _)) (pe_one (pe_not (pe_m1 PySem.F.slot_str_startswith PySem.F.type_str_startswith mt_startswith (pv 1) pe_str)))))))), ?_⟩
    have sl : x.length ≤ sizeLine := Nat.le_trans hl (by decide)
    refine ⟨.str x, rfl, ⟨_, rfl⟩, x, "-", rfl, rfl, sl, ?_⟩
    unfold isNum at hq
    generalize Txt.removeprefix x "-" = d at hq ⊢
    refine ⟨.str d, rfl, ⟨_, rfl⟩, d, rfl, rfl, trivial, _, rfl, ?_⟩
    cases ha : Txt.isascii d with
    | false =>
      rw [ha] at hq
      exact iteT hq
    | true =>
      refine iteF ⟨.str d, rfl, ⟨_, rfl⟩, d, rfl, rfl, trivial, _, rfl, ?_⟩
      cases hd : Txt.isdigit d with
      | false =>
        rw [ha, hd] at hq
        exact iteT hq
      | true =>
        rw [ha, hd] at hq
        refine iteF ⟨.str x, rfl, rfl, _, rfl, ?_⟩
        by_cases e : x = "0"
        · rw [show (x == "0") = true from beq_iff_eq.mpr e] at hq
          rw [decide_eq_true (show V.str x = V.str "0" by rw [e])]
          exact iteT hq
        · rw [show (x == "0") = false from beq_eq_false_iff_ne.mpr e] at hq
          rw [decide_eq_false (show ¬ V.str x = V.str "0" from fun z => e (V.str.inj z))]
          exact iteF ⟨.str d, rfl, ⟨_, rfl⟩, d, "0", rfl, rfl, _, rfl, hq⟩
def spRO : Sp := fun vs H Q _ => ∃ x : Str, vs = [.str x] ∧ x.length ≤ 1000000 ∧ Q (optV (rdw x)) H
theorem ok_RO {f : Addr} {fd : FuncData} {fRD : Addr} {dRD : FuncData} {fNM : Addr} {dNM : FuncData} {k : Nat} (F : Fun K "reading_of" "reading_of" sRO f fd) (GRD : FnOk P w K mg base CX0 (k + 2) fRD dRD ["value"] spRD) (gRD : mg "is_reading" = some (.ref fRD)) (kRD : PySem.W.keepIn K (.ref fRD) = true) (bRD : Binds K dRD ["value"] []) (GNM : FnOk P w K mg base CX0 (k + 1) fNM dNM ["word"] spNM) (gNM : mg "is_numeral" = some (.ref fNM)) (kNM : PySem.W.keepIn K (.ref fNM) = true) (bNM : Binds K dNM ["word"] []) (ml : mg "len" = none) (mi : mg "int" = none) (gLo : ∃ u, mg "LONGEST" = some u ∧ RelV (.int 11) u) : FnOk P w K mg base CX0 (k + 3) f fd ["word"] spRO := by
  refine F.ok scRO (fun vs H Q E h => ?_) (fun cdv A outer s H vs Q E hr h => ?_)
  · obtain ⟨x, rfl, _⟩ := h
    rfl
  · obtain ⟨x, rfl, hl, hq⟩ := h
    refine ⟨_, (pss_cons (ps_if (PW.pt (pw_or (pt_cmpR op_gt (pe_callB call_len_str (by rfl) ml PySem.boot_len (pa_cons (pv 0) pa_nil)) (C8.pe_gc (v := .int 11) (by rfl) gLo) (nomark _)) (pw_or1 (pt_not (pt_val (pe_call (GNM.mono (show k + 1 ≤ k + 2 by omega)) hr (by rfl) gNM kNM bNM .nil pass0 (pa_cons (pv 0) pa_nil))))))) (pss_one (ps_ret pe_non)) pss_nil)
      (pss_cons (ps_set (i := 1) scRO.nd rfl (.inl rfl) (pe_callTy call_int_str (by rfl) mi (by decide +kernel) (pa_cons (pv 0) pa_nil)))
      (pss_one (ps_ret (pe_ifExp (pt_val (pe_call (GRD.mono (show k + 2 ≤ k + 2 by omega)) hr (by rfl) gRD kRD bRD .nil pass0 (pa_cons (pv 1) pa_nil))) (pv 1) pe_non))))), ?_⟩
    refine ⟨.str x, rfl, x, rfl, Nat.le_trans hl (by decide), _, 11, rfl, rfl, _, rfl, ?_⟩
    by_cases c : 11 < x.length
    · rw [decide_eq_true (show (11 : Int) < (x.length : Int) by omega)]
      have e : rdw x = none := by
        unfold NX.rdw
        rw [decide_eq_true c]
        rfl
      rw [e] at hq
      exact iteT hq
    · rw [decide_eq_false (show ¬ (11 : Int) < (x.length : Int) by omega)]
      refine iteF ⟨.str x, rfl, x, rfl, by omega, _, rfl, ?_⟩
      cases hn : isNum x with
      | false =>
        have e : rdw x = none := by
          unfold NX.rdw
          rw [decide_eq_false c, hn]
          rfl
        rw [e] at hq
        exact iteT hq
      | true =>
        obtain ⟨n, en⟩ := NX.num_reads hn (by omega)
        have e : rdw x = if n.natAbs ≤ 1000000000 then some n else none := by
          unfold NX.rdw
          rw [decide_eq_false c, hn, en]
          rfl
        refine iteF ⟨.str x, rfl, x, n, rfl, en, by omega, ?_⟩
        refine ⟨.int n, rfl, n, rfl, _, rfl, ?_⟩
        by_cases b : n.natAbs ≤ 1000000000
        · rw [decide_eq_true b]
          rw [e, if_pos b] at hq
          exact iteT ⟨.int n, rfl, hq⟩
        · rw [decide_eq_false b]
          rw [e, if_neg b] at hq
          exact iteF hq
def spCI : Sp := fun vs H Q _ => ∃ x : Str, vs = [.str x] ∧ x.length ≤ 900000 ∧ (cyw x = none → ∀ H', Same H H' → Q .non H') ∧ (∀ r, cyw x = some r → ∀ H' p, Same H H' → H' p = some (.tup [.int r.1, .int r.2]) → Q (.ref p) H')
theorem ok_CI {f : Addr} {fd : FuncData} {fRO : Addr} {dRO : FuncData} {k : Nat} (F : Fun K "_cycle_in" "_cycle_in" sCI f fd) (GRO : FnOk P w K mg base CX0 (k + 3) fRO dRO ["word"] spRO) (gRO : mg "reading_of" = some (.ref fRO)) (kRO : PySem.W.keepIn K (.ref fRO) = true) (bRO : Binds K dRO ["word"] []) : FnOk P w K mg base CX0 (k + 4) f fd ["word"] spCI := by
  refine F.ok scCI (fun vs H Q E h => ?_) (fun cdv A outer s H vs Q E hr h => ?_)
  · obtain ⟨x, rfl, _⟩ := h
    rfl
  · obtain ⟨x, rfl, hl, hn, hs⟩ := h
    refine ⟨_, (pss_cons (ps_asg (pe_partition (pv 0) pe_str) (pg_tup rfl (pgs_cons (pg_name (i := 1) scCI.nd rfl (.inl rfl)) (pgs_cons (pg_name (i := 2) scCI.nd rfl (.inl rfl)) (pgs_cons (pg_name (i := 3) scCI.nd rfl (.inl rfl)) pgs_nil)))))
      (pss_cons (ps_par (i := 4) (j := 5) (by rfl) scCI.nd rfl rfl (by decide) rfl rfl (pa_cons (pe_call GRO hr (by rfl) gRO kRO bRO .nil pass0 (pa_cons (pv 1) pa_nil)) (pa_cons (pe_call GRO hr (by rfl) gRO kRO bRO .nil pass0 (pa_cons (pv 3) pa_nil)) pa_nil)) (by rfl))
      (pss_cons (ps_if (PW.pt (pw_or (pt_cmpR op_isN (pv 4) pe_non (nomark _)) (pw_or (pt_cmpR op_isN (pv 5) pe_non (nomark _)) (pw_or1 (pt_cmpR op_ge (pv 4) (pv 5) (nomark _)))))) (pss_one (ps_ret pe_non)) pss_nil)
      (pss_one (ps_ret (pe_tup (pa_cons (pv 4) (pa_cons (pv 5) pa_nil)))))))), ?_⟩
    have hz : x.length ≤ sizeLine := Nat.le_trans hl (by decide)
    have hf := NZ.part_len x
    refine ⟨.str x, rfl, ⟨_, rfl⟩, x, ":", rfl, rfl, by decide +kernel, hz, fun p np => ?_⟩
    have s0 := same_new (o := .tup [.str (Txt.partition x ":").1, .str (Txt.partition x ":").2.1, .str (Txt.partition x ":").2.2]) np
    have e0 := upd_same (H := H) (a := p) (o := .tup [.str (Txt.partition x ":").1, .str (Txt.partition x ":").2.1, .str (Txt.partition x ":").2.2])
    unfold NZ.cyw at hn hs
    obtain ⟨f1, f2⟩ := hf
    generalize (Txt.partition x ":").1 = a at *
    generalize (Txt.partition x ":").2.2 = b at *
    generalize upd H p (.tup [.str a, .str (Txt.partition x ":").2.1, .str b]) = H1 at s0 e0 ⊢
    refine ⟨p, _, rfl, SqT.of e0, rfl, .str a, _, rfl, _, _, rfl, .str b, [], rfl, rfl, ?_⟩
    refine ⟨.str a, rfl, a, rfl, by omega, .str b, rfl, b, rfl, by omega, _, _, rfl, ?_⟩
    cases ha : rdw a with
    | none =>
      rw [ha] at hn
      exact ⟨_, rfl, rfl, true, rfl, iteT (hn rfl _ s0)⟩
    | some i =>
      refine ⟨.int i, rfl, rfl, false, rfl, iteF ?_⟩
      cases hb : rdw b with
      | none =>
        rw [hb, NZ.par2_none] at hn
        exact ⟨_, rfl, rfl, true, rfl, iteT (hn rfl _ s0)⟩
      | some j =>
        rw [ha, hb] at hn hs
        refine ⟨.int j, rfl, rfl, false, rfl, iteF ⟨.int i, rfl, .int j, rfl, i, j, rfl, rfl, _, rfl, ?_⟩⟩
        by_cases c : j ≤ i
        · rw [decide_eq_true c]
          exact iteT (hn (if_neg (by omega)) _ s0)
        · rw [decide_eq_false c]
          exact iteF ⟨.int i, rfl, .int j, rfl, by show 2 ≤ sizeLine; decide, fun q nq => hs (i, j) (if_pos (by omega)) _ q (s0.trans (same_new nq)) upd_same⟩
/-- an error with its row -/
def Err (CE : Addr) (j : Nat) (H : Hp) (E : XK) : Prop := ∀ H' dx, Same H H' → H' dx = none → E (.ref CE) (some dx) (upd H' dx (.xd [(("row" : Str), .int (j : Int))]))
def spCY (CE : Addr) : Sp := fun vs H Q E => ∃ x : Str, vs = [.str x] ∧ x.length ≤ 20000 ∧ (∀ cs, okC x = some cs → ∀ H' p xs, Same H H' → H' p = some (.lst xs) → PairsAt H' xs cs → Q (.ref p) H') ∧ (okC x = none → Err CE 0 H E)
theorem ok_CY {f : Addr} {fd : FuncData} {fCI : Addr} {dCI : FuncData} {fIN : Addr} {dIN : FuncData} {CE : Addr} {k : Nat} (F : Fun K "_cycles_in" "_cycles_in" sCY f fd) (GCI : FnOk P w K mg base CX0 (k + 4) fCI dCI ["word"] spCI) (gCI : mg "_cycle_in" = some (.ref fCI)) (kCI : PySem.W.keepIn K (.ref fCI) = true) (bCI : Binds K dCI ["word"] []) (gN : ∃ u, mg "NOTHING" = some u ∧ RelV (.str "none") u) (mso : mg "sorted" = none) (TC : ErrC K CE fIN "row") (gE : mg "InvalidText" = some (.ref CE)) (GIN : FnOk P w K mg base CX0 1 fIN dIN ["self", "row"] (XS.spInit CE "row")) (bIN : Binds K dIN ["self", "row"] []) : FnOk P w K mg base (CX P w) (k + 5) f fd ["row"] (spCY CE) := by
  refine F.okX scCY (fun vs H Q E h => ?_) (fun cdv A outer s H vs Q E hr h => ?_)
  · obtain ⟨x, rfl, _⟩ := h
    rfl
  · obtain ⟨x, rfl, hl, hq, hE⟩ := h
    refine ⟨_, (pss_cons (ps_if (pt_cmpR op_eq (pv 0) (C8.pe_gc (v := .str "none") (by rfl) gN) (nomark _)) (pss_one (ps_ret (pe_lst pa_nil))) pss_nil)
      (pss_cons (ps_setLc (i := 1) (own := [("word", 2)]) (g := gName 2) (tt := tYes) (te := tCall spCI [] E0 (tCons (tVar 2) tNil)) rfl scCY.nd rfl rfl (sw_true rfl rfl rfl (by decide +kernel)) (pi_list (pe_split (pv 0) pe_str)) (blkOk_by (own := [("word", 2)]) (N := ["row", "cycles", "word"]) (sc := defScope sCY) (by decide +kernel)) (fun _ _ _ _ _ => (pg_name (i := 2) scCY.nd rfl (Or.inl rfl) (Or.inr rfl))) (fun _ _ _ _ _ => pts_nil) (fun _ _ _ _ _ => (pe_call GCI hr (by rfl) gCI kCI bCI .nil pass0 (pa_cons (pv 2) pa_nil))))
      (pss_cons (ps_if (PW.pt (pw_or (pt_cmpR (op_inD (Nat.lt_of_le_of_lt (Nat.add_le_add_left (by decide) _) (hu_of hr))) pe_non (pv 1) (by rfl)) (pw_or1 (pt_cmpR (op_neD hr.units) (pv 1) (pe_callB cr_sortedPO (by rfl) mso (by decide +kernel) (pa_cons (pv 1) pa_nil)) (nomark _))))) (pss_one (ps_raise rfl (takes_of rfl rfl rfl rfl) (pmk_oex TC.oex TC.iC TC.tI GIN (hr.mono (show 1 + 1 ≤ k + 4 by omega)) bIN .nil pass0 (by rfl) gE (pa_cons pe_int pa_nil)))) pss_nil)
      (pss_one (ps_ret (pv 1)))))), ?_⟩
    refine ⟨.str x, rfl, rfl, _, rfl, ?_⟩
    by_cases hx : x = "none"
    · rw [decide_eq_true (show V.str x = V.str "none" from congrArg V.str hx)]
      have e : okC x = some [] := okC_yes (by unfold NZ.cyr; rw [if_pos hx]; rfl) .nil
      exact iteT ⟨Nat.zero_le _, fun p np => hq [] e _ p [] (same_new np) upd_same trivial⟩
    rw [decide_eq_false (show ¬ V.str x = V.str "none" from fun z => hx (V.str.inj z))]
    have he : cyr x = (Txt.split x " ").map cyw := by unfold NZ.cyr; rw [if_neg hx]
    have lc := NY.split_count NX.blk NZ.blkk x
    have lp := NY.split_part NX.blk NZ.blkk x
    refine iteF ⟨.str x, rfl, ⟨_, rfl⟩, x, " ", rfl, rfl, by decide +kernel, Nat.le_trans (Nat.add_le_add_right hl 2) (by decide), fun S nS => ?_⟩
    generalize Txt.split x " " = ws at he lc lp ⊢
    have sS := same_new (o := .lst (ws.map V.str)) nS
    have eS := upd_same (H := H) (a := S) (o := .lst (ws.map V.str))
    generalize upd H S (.lst (ws.map V.str)) = H0 at sS eS ⊢
    refine ⟨S, rfl, ⟨_, SqL.of eS⟩, fun D nD => ?_⟩
    refine lc_list (K := K) (a := S) (xs := ws.map V.str) (fun i Hz => Same H0 Hz ∧ ∃ acc, Hz D = some (.lst acc) ∧ PAt Hz acc ((ws.take i).map cyw)) ⟨same_new nD, [], upd_same, trivial⟩ (fun i Hz _ z => SqL.of (z.1 _ _ eS)) ?_ ?_
    · rintro i y Hz hy ⟨sz, acc, eD, tr⟩
      obtain ⟨r, hr, rfl⟩ := strs_at hy
      have lr := lp r (List.mem_of_getElem? hr)
      have al := tr.len
      rw [List.length_map, List.length_take] at al
      have step : ∀ (H' : Hp) (v : V) (o : Option (Int × Int)), Same Hz H' → cyw r = o → (match o with | none => v = .non | some e => ∃ p, v = .ref p ∧ H' p = some (.tup [.int e.1, .int e.2])) →
          ∃ acc', H' D = some (.lst acc') ∧ acc'.length < sizeLine ∧ (Same H0 (upd H' D (.lst (acc' ++ [v]))) ∧ ∃ acc, (upd H' D (.lst (acc' ++ [v]))) D = some (.lst acc) ∧ PAt (upd H' D (.lst (acc' ++ [v]))) acc ((ws.take (i + 1)).map cyw)) := fun H' v o s ho hv => by
        refine ⟨acc, s _ _ eD, Nat.lt_of_le_of_lt (show _ ≤ 22000 by omega) (by decide), same_again nD (sz.trans s), _, upd_same, ?_⟩
        have keep : ∀ p (e : Int × Int), H' p = some (.tup [.int e.1, .int e.2]) → (upd H' D (.lst (acc ++ [v]))) p = some (.tup [.int e.1, .int e.2]) := fun p e q => by
          rw [upd_ne (fun z => by rw [z, s _ _ eD] at q; cases q)]; exact q
        rw [List.take_add_one, hr, List.map_append]
        refine ((tr.same s).app (ys := [v]) (ps := [o]) ⟨hv, trivial⟩).mp keep |> fun g => ?_
        rw [← ho] at g
        exact g
      refine ⟨rfl, iteT (B := True) ⟨.str r, rfl, r, rfl, by omega, fun h H' s => step H' .non none s h rfl, fun e h H' p s hp => step H' (.ref p) (some e) s h ⟨p, rfl, hp⟩⟩⟩
    rintro H1 ⟨s1, acc, eD, tr⟩
    rw [List.length_map, List.take_length, ← he] at tr
    have s01 := sS.trans s1
    refine ⟨.ref D, rfl, .none, dPs (cyr x), .non, .lst (SqL.of eD) (dp_ps tr), rfl, shaped_ps _, _, rfl, ?_⟩
    rw [any_ps]
    cases ea : allS (cyr x) with
    | none =>
      refine iteT (init_ends fun dx ndx => ?_)
      exact hE (okC_none ea) _ _ s01 ndx
    | some cs =>
      have eo := NZ.allS_some ea
      rw [eo] at tr
      have pa := tr.pairs
      refine iteF ⟨.ref D, rfl, .ref D, rfl, D, acc, kOf H1, rfl, SqL.of eD, (pairs_key pa).2, fun ys p h1 h2 np => ?_⟩
      obtain ⟨ds, pd, perm, srt⟩ := sorted_out pa h1 h2
      have sp := same_new (o := .lst ys) np
      refine ⟨.list (dPairs cs), .list (dPairs ds), .lst (SqL.of (sp _ _ eD)) (dp_pairs (pa.same sp)), .lst (SqL.of upd_same) (dp_pairs (pd.same sp)), shaped_prs _, shaped_prs _, _, rfl, ?_⟩
      rw [ev_prs]
      by_cases c : cs = ds
      · rw [decide_eq_true c]
        refine iteF ⟨.ref D, rfl, hq cs (okC_yes ea (by rw [c]; exact srt)) _ D acc (s01.trans sp) (sp _ _ eD) (pa.same sp)⟩
      · rw [decide_eq_false c]
        refine iteT (init_ends fun dx ndx => ?_)
        exact hE (okC_no ea fun z => c (sorted_same perm.symm z srt)) _ _ (s01.trans sp) ndx
def spPT (CE : Addr) : Sp := fun vs H Q E => ∃ x : Str, vs = [.str x] ∧ x.length ≤ 20000 ∧ (∀ ns, allS (rsr x) = some ns → ∀ H' p, Same H H' → H' p = some (.lst (ns.map V.int)) → Q (.ref p) H') ∧ (allS (rsr x) = none → Err CE 1 H E)
theorem ok_PT {f : Addr} {fd : FuncData} {fRO : Addr} {dRO : FuncData} {fIN : Addr} {dIN : FuncData} {CE : Addr} {k : Nat} (F : Fun K "_points_in" "_points_in" sPT f fd) (GRO : FnOk P w K mg base CX0 (k + 3) fRO dRO ["word"] spRO) (gRO : mg "reading_of" = some (.ref fRO)) (kRO : PySem.W.keepIn K (.ref fRO) = true) (bRO : Binds K dRO ["word"] []) (gN : ∃ u, mg "NOTHING" = some u ∧ RelV (.str "none") u) (TC : ErrC K CE fIN "row") (gE : mg "InvalidText" = some (.ref CE)) (GIN : FnOk P w K mg base CX0 1 fIN dIN ["self", "row"] (XS.spInit CE "row")) (bIN : Binds K dIN ["self", "row"] []) : FnOk P w K mg base (CX P w) (k + 4) f fd ["row"] (spPT CE) := by
  refine F.okX scPT (fun vs H Q E h => ?_) (fun cdv A outer s H vs Q E hr h => ?_)
  · obtain ⟨x, rfl, _⟩ := h
    rfl
  · obtain ⟨x, rfl, hl, hq, hE⟩ := h
    refine ⟨_, (pss_cons (ps_if (pt_cmpR op_eq (pv 0) (C8.pe_gc (v := .str "none") (by rfl) gN) (nomark _)) (pss_one (ps_ret (pe_lst pa_nil))) pss_nil)
      (pss_cons (ps_setLc (i := 1) (own := [("word", 2)]) (g := gName 2) (tt := tYes) (te := tCall spRO [] E0 (tCons (tVar 2) tNil)) rfl scPT.nd rfl rfl (sw_true rfl rfl rfl (by decide +kernel)) (pi_list (pe_split (pv 0) pe_str)) (blkOk_by (own := [("word", 2)]) (N := ["row", "points", "word"]) (sc := defScope sPT) (by decide +kernel)) (fun _ _ _ _ _ => (pg_name (i := 2) scPT.nd rfl (Or.inl rfl) (Or.inr rfl))) (fun _ _ _ _ _ => pts_nil) (fun _ _ _ _ _ => (pe_call GRO hr (by rfl) gRO kRO bRO .nil pass0 (pa_cons (pv 2) pa_nil))))
      (pss_cons (ps_if (pt_cmpR op_in_seq pe_non (pv 1) (by rfl)) (pss_one (ps_raise rfl (takes_of rfl rfl rfl rfl) (pmk_oex TC.oex TC.iC TC.tI GIN (hr.mono (show 1 + 1 ≤ k + 3 by omega)) bIN .nil pass0 (by rfl) gE (pa_cons pe_int pa_nil)))) pss_nil)
      (pss_one (ps_ret (pv 1)))))), ?_⟩
    refine ⟨.str x, rfl, rfl, _, rfl, ?_⟩
    by_cases hx : x = "none"
    · rw [decide_eq_true (show V.str x = V.str "none" from congrArg V.str hx)]
      have e : allS (rsr x) = some [] := by unfold NZ.rsr; rw [if_pos hx]; rfl
      exact iteT ⟨Nat.zero_le _, fun p np => hq [] e _ p (same_new np) upd_same⟩
    rw [decide_eq_false (show ¬ V.str x = V.str "none" from fun z => hx (V.str.inj z))]
    have he : rsr x = (Txt.split x " ").map rdw := by unfold NZ.rsr; rw [if_neg hx]
    have lc := NY.split_count NX.blk NZ.blkk x
    have lp := NY.split_part NX.blk NZ.blkk x
    refine iteF ⟨.str x, rfl, ⟨_, rfl⟩, x, " ", rfl, rfl, by decide +kernel, Nat.le_trans (Nat.add_le_add_right hl 2) (by decide), fun S nS => ?_⟩
    generalize Txt.split x " " = ws at he lc lp ⊢
    have sS := same_new (o := .lst (ws.map V.str)) nS
    have eS := upd_same (H := H) (a := S) (o := .lst (ws.map V.str))
    generalize upd H S (.lst (ws.map V.str)) = H0 at sS eS ⊢
    refine ⟨S, rfl, ⟨_, SqL.of eS⟩, fun D nD => ?_⟩
    refine lc_list (K := K) (a := S) (xs := ws.map V.str) (fun i Hz => Same H0 Hz ∧ Hz D = some (.lst (((ws.take i).map rdw).map optV))) ⟨same_new nD, upd_same⟩ (fun i Hz _ z => SqL.of (z.1 _ _ eS)) ?_ ?_
    · rintro i y Hz hy ⟨sz, eD⟩
      obtain ⟨r, hr, rfl⟩ := strs_at hy
      have lr := lp r (List.mem_of_getElem? hr)
      refine ⟨rfl, iteT (B := True) ⟨.str r, rfl, r, rfl, by omega, _, eD, ?_, same_again nD sz, ?_⟩⟩
      · rw [List.length_map, List.length_map, List.length_take]; exact Nat.lt_of_le_of_lt (show _ ≤ 22000 by omega) (by decide)
      · rw [upd_same, List.take_add_one, hr, List.map_append, List.map_append]; rfl
    rintro H1 ⟨s1, eD⟩
    rw [List.length_map, List.take_length, ← he] at eD
    have s01 := sS.trans s1
    refine ⟨.ref D, rfl, D, _, rfl, .inl (SqL.of eD), rfl, opt_flat _, _, rfl, ?_⟩
    rw [opt_in, any_allS]
    cases ea : allS (rsr x) with
    | none =>
      refine iteT (init_ends fun dx ndx => ?_)
      exact hE ea _ _ s01 ndx
    | some ns =>
      rw [NZ.allS_some ea, List.map_map] at eD
      exact iteF ⟨.ref D, rfl, hq ns ea _ D s01 eD⟩
def spAL : Sp := fun vs H Q _ => ∃ (a : Addr) (ns : List Int), vs = [.ref a] ∧ H a = some (.lst (ns.map V.int)) ∧ ns.length ≤ 20500 ∧ ∀ H', Same H H' → Q (.bl (leftB ns)) H'
theorem ok_AL {f : Addr} {fd : FuncData} {fCN : Addr} {dCN : FuncData} {k : Nat} (F : Fun K "are_left" "are_left" sAL f fd) (GCN : FnOk P w K mg base CX0 (k + 4) fCN dCN ["load"] (spCo K)) (gCN : mg "_counted" = some (.ref fCN)) (kCN : PySem.W.keepIn K (.ref fCN) = true) (bCN : Binds K dCN ["load"] []) (mt : mg "list" = none) : FnOk P w K mg base CX0 (k + 5) f fd ["points"] spAL := by
  refine F.ok scAL (fun vs H Q E h => ?_) (fun cdv A outer s H vs Q E hr h => ?_)
  · obtain ⟨a, ns, rfl, _⟩ := h
    rfl
  · obtain ⟨a, ns, rfl, ha, hl, hq⟩ := h
    refine ⟨_, (pss_one (ps_ret (pe_cmpR (op_eqD hr.units) (pe_ix ix_tup (pe_call GCN hr (by rfl) gCN kCN bCN .nil pass0 (pa_cons (pv 0) pa_nil)) pe_int (fun _ _ => rfl)) (pe_callTy call_list_of (by rfl) mt (by decide +kernel) (pa_cons (pv 0) pa_nil)) (nomark _)))), ?_⟩
    refine ⟨.ref a, rfl, a, ns, rfl, .inl (SqL.of ha), by omega, fun H' p c r xs cs rs s np hp hc pr hr' run nf => ?_⟩
    refine ⟨p, _, _, .ref r, rfl, rfl, SqT.of hp, rfl, .ref a, rfl, a, _, rfl, .inl (SqL.of (s _ _ ha)), fun l nl => ?_⟩
    have sl := same_new nl (o := .lst (ns.map V.int))
    refine ⟨.list (dInts rs), .list (dInts ns), .lst (SqL.of (sl _ _ hr')) (dp_ints rs), .lst (SqL.of upd_same) (dp_ints ns), shaped_lst rs, shaped_lst ns, ?_⟩
    rw [ev_lst, ← left_iff run nf]
    exact hq _ (s.trans sl)
def spOU : Sp := fun vs H Q _ => ∃ (a b : Addr) (xs : List V) (cs : List (Int × Int)) (ns : List Int), vs = [.ref a, .ref b] ∧ H a = some (.lst xs) ∧ PairsAt H xs cs ∧ H b = some (.lst (ns.map V.int)) ∧ cs.length ≤ 20500 ∧ ns.length ≤ 20500 ∧
  ∀ H' p ys, Same H H' → H' p = some (.lst ys) → ys.isEmpty = inB cs ns → Q (.ref p) H'
theorem ok_OU {f : Addr} {fd : FuncData} {fCO : Addr} {dCO : FuncData} {k : Nat} (F : Fun K "cycles_outside" "cycles_outside" sOU f fd) (GCO : FnOk P w K mg base CX0 (k + 1) fCO dCO ["outer", "inner"] (spCont K)) (gCO : mg "contains" = some (.ref fCO)) (kCO : PySem.W.keepIn K (.ref fCO) = true) (bCO : Binds K dCO ["outer", "inner"] []) (mn : mg "min" = none) (mx : mg "max" = none) (mt : mg "list" = none) : FnOk P w K mg base CX0 (k + 2) f fd ["cycles", "rest"] spOU := by
  refine F.ok scOU (fun vs H Q E h => ?_) (fun cdv A outer s H vs Q E hr h => ?_)
  · obtain ⟨a, b, xs, cs, ns, rfl, _⟩ := h
    rfl
  · obtain ⟨a, b, xs, cs, ns, rfl, ha, hp, hb, hl1, hl2, hq⟩ := h
    refine ⟨_, (pss_cons (ps_if (pt_not (pt_truth (pv 1) (by intro _; rfl))) (pss_one (ps_ret (pe_callTy call_list_of (by rfl) mt (by decide +kernel) (pa_cons (pv 0) pa_nil)))) pss_nil)
      (pss_cons (ps_set (i := 2) scOU.nd rfl (.inr rfl) (pe_tup (pa_cons (pe_callB (GU.cr_minS rfl) (by rfl) mn (by decide +kernel) (pa_cons (pv 1) pa_nil)) (pa_cons (pe_callB (GU.cr_maxS rfl) (by rfl) mx (by decide +kernel) (pa_cons (pv 1) pa_nil)) pa_nil))))
      (pss_one (ps_ret (pe_lc (own := [("cycle", 3)]) (g := gName 3)   rfl scOU.nd (pi_list (pv 0)) (blkOk_by (own := [("cycle", 3)]) (N := ["cycles", "rest", "whole", "cycle"]) (sc := defScope sOU) (by decide +kernel)) (fun _ _ _ _ _ => (pg_name (i := 3) scOU.nd rfl (Or.inl rfl) (Or.inr rfl))) (fun _ _ _ _ _ => pts_one (pt_not (pt_val (pe_call GCO hr (by rfl) gCO kCO bCO .nil pass0 (pa_cons (pv 2) (pa_cons (pv 3) pa_nil)))))) (fun _ _ _ _ _ => (pv 3))))))), ?_⟩
    cases ns with
    | nil =>
      refine ⟨.ref b, rfl, _, .inl ⟨_, SqL.of hb, rfl⟩, iteT ⟨.ref a, rfl, a, xs, rfl, .inl (SqL.of ha), fun l nl => hq _ l xs (same_new nl) upd_same ?_⟩⟩
      have := hp.length
      cases xs with
      | nil =>
        cases cs with
        | nil => rfl
        | cons _ _ => simp at this
      | cons _ _ =>
        cases cs with
        | nil => simp at this
        | cons _ _ => rfl
    | cons n0 ns0 =>
      generalize hns : n0 :: ns0 = ns at *
      have npos : 0 < ns.length := by rw [← hns]; exact Nat.succ_pos _
      have ntru : (!(ns.map V.int).isEmpty) = true := by rw [← hns]; rfl
      refine ⟨.ref b, rfl, _, .inl ⟨_, SqL.of hb, rfl⟩, ?_⟩
      rw [ntru]
      refine iteF ⟨.ref b, rfl, b, ns, rfl, .inl (SqL.of hb), npos, fun mn h1 h2 => ⟨.ref b, rfl, b, ns, rfl, .inl (SqL.of hb), npos, fun mx h3 h4 => ⟨(show 2 ≤ sizeLine by decide), fun wp nw => ?_⟩⟩⟩
      have sw := same_new nw (o := .tup [.int mn, .int mx])
      have ew : (upd H wp (.tup [.int mn, .int mx])) wp = some (.tup [.int mn, .int mx]) := upd_same
      have ha1 := sw _ _ ha
      have hp1 := hp.same sw
      generalize upd H wp (.tup [.int mn, .int mx]) = H1 at sw ew ha1 hp1 ⊢
      refine ⟨.ref a, rfl, a, rfl, ⟨xs, SqL.of ha1⟩, fun D nD => ?_⟩
      refine lc_it (walk_list (xs := xs)) (fun i Hz => Same H1 Hz ∧ ∃ ys, Hz D = some (.lst ys) ∧ ys.length ≤ i ∧ ys.isEmpty = inB (cs.take i) ns) ⟨same_new nD, [], upd_same, Nat.le_refl _, rfl⟩ (fun i Hz _ z => SqL.of (z.1 _ _ ha1)) ?_ ?_
      · rintro i x Hz H2 hi ⟨sz, ys, hD, hyl, hye⟩ ⟨rfl, hx⟩
        obtain ⟨r, p, hr1, rfl, hp2⟩ := pr_at hp1 hx
        refine ⟨rfl, .ref wp, rfl, .ref p, rfl, wp, p, mn, mx, r.1, r.2, rfl, SqT.of (sz _ _ ew), SqT.of (sz _ _ hp2), _, rfl, ?_⟩
        have hb2 := inB_take (ns := ns) hr1
        rw [any_min h1 h2, any_max h3 h4] at hb2
        cases hc : (decide (mn ≤ r.1) && decide (r.2 ≤ mx)) with
        | true =>
          rw [hc, Bool.and_true] at hb2
          exact iteF ⟨sz, ys, hD, by omega, by rw [hb2]; exact hye⟩
        | false =>
          rw [hc, Bool.and_false] at hb2
          have hlx : xs.length ≤ 20500 := by rw [hp.length]; exact hl1
          refine iteT ⟨.ref p, rfl, ys, hD, small22000 (by omega), fun b o e => ?_, ys ++ [.ref p], upd_same, by simp; omega, by rw [hb2]; simp⟩
          rw [upd_ne (ne_of_none e nD)]
          exact sz b o e
      · rintro Hz ⟨sz, ys, hD, hyl, hye⟩
        refine hq _ D ys (sw.trans sz) hD ?_
        rw [hye, hp.length, List.take_length]
def spPE (C CE : Addr) : Sp := fun vs H Q E => ∃ (x : Str), vs = [.ref C, .str x] ∧ x.length ≤ 20000 ∧
  (∀ cs rs, pcn x = .inr (cs, rs) → ∀ H' t, Same H H' → CountAt H' C t cs rs → Q (.ref t) H') ∧ (∀ j, pcn x = .inl j → Err CE j H E)
theorem ok_PE {f : Addr} {fd : FuncData} {fCY : Addr} {dCY : FuncData} {fPT : Addr} {dPT : FuncData} {fAL : Addr} {dAL : FuncData} {fOU : Addr} {dOU : FuncData} {fTI : Addr} {dTI : FuncData} {fIN : Addr} {dIN : FuncData} {C CE : Addr} {k : Nat} (F : Fun K "parse" "Count.parse" sPA f fd) (GCY : FnOk P w K mg base (CX P w) (k + 5) fCY dCY ["row"] (spCY CE)) (gCY : mg "_cycles_in" = some (.ref fCY)) (kCY : PySem.W.keepIn K (.ref fCY) = true) (bCY : Binds K dCY ["row"] []) (GPT : FnOk P w K mg base (CX P w) (k + 4) fPT dPT ["row"] (spPT CE)) (gPT : mg "_points_in" = some (.ref fPT)) (kPT : PySem.W.keepIn K (.ref fPT) = true) (bPT : Binds K dPT ["row"] []) (GAL : FnOk P w K mg base CX0 (k + 5) fAL dAL ["points"] spAL) (gAL : mg "are_left" = some (.ref fAL)) (kAL : PySem.W.keepIn K (.ref fAL) = true) (bAL : Binds K dAL ["points"] []) (GOU : FnOk P w K mg base CX0 (k + 2) fOU dOU ["cycles", "rest"] spOU) (gOU : mg "cycles_outside" = some (.ref fOU)) (kOU : PySem.W.keepIn K (.ref fOU) = true) (bOU : Binds K dOU ["cycles", "rest"] []) (mk : Mk K C fTI) (GTI : FnOk P w K mg base CX0 (k + 1) fTI dTI ["self", "cycles", "rest"] (spInit K C)) (bTI : Binds K dTI ["self", "cycles", "rest"] []) (mlen : mg "len" = none) (TC : ErrC K CE fIN "row") (gE : mg "InvalidText" = some (.ref CE)) (GIN : FnOk P w K mg base CX0 1 fIN dIN ["self", "row"] (XS.spInit CE "row")) (bIN : Binds K dIN ["self", "row"] []) : FnOk P w K mg base (CX P w) (k + 7) f fd ["cls", "text"] (spPE C CE) := by
  refine F.okX scPA (fun vs H Q E h => ?_) (fun cdv A outer s H vs Q E hr h => ?_)
  · obtain ⟨x, rfl, _⟩ := h
    rfl
  · obtain ⟨x, rfl, hl, hq, hE⟩ := h
    refine ⟨_, (pss_cons (ps_set (i := 2) scPA.nd rfl (.inl rfl) (pe_split (pv 1) pe_str))
      (pss_cons (ps_set (i := 3) scPA.nd rfl (.inl rfl) (pe_callS (GCY.mono (show k + 5 ≤ k + 6 by omega)) hr (by rfl) gCY kCY bCY (fun σ => passAt (takes_of rfl rfl rfl rfl) σ) (pa_cons (pe_ix ix_list (pv 2) pe_int (fun _ _ => rfl)) pa_nil)))
      (pss_cons (ps_if (pt_cmpR op_lt (pe_callB call_len_seq (by rfl) mlen PySem.boot_len (pa_cons (pv 2) pa_nil)) pe_int (nomark _)) (pss_one (ps_raise rfl (takes_of rfl rfl rfl rfl) (pmk_oex TC.oex TC.iC TC.tI GIN (hr.mono (show 1 + 1 ≤ k + 6 by omega)) bIN .nil pass0 (by rfl) gE (pa_cons pe_int pa_nil)))) pss_nil)
      (pss_cons (ps_set (i := 4) scPA.nd rfl (.inl rfl) (pe_callS (GPT.mono (show k + 4 ≤ k + 6 by omega)) hr (by rfl) gPT kPT bPT (fun σ => passAt (takes_of rfl rfl rfl rfl) σ) (pa_cons (pe_ix ix_list (pv 2) pe_int (fun _ _ => rfl)) pa_nil)))
      (pss_cons (ps_if (pt_cmpR op_gt (pe_callB call_len_seq (by rfl) mlen PySem.boot_len (pa_cons (pv 2) pa_nil)) pe_int (nomark _)) (pss_one (ps_raise rfl (takes_of rfl rfl rfl rfl) (pmk_oex TC.oex TC.iC TC.tI GIN (hr.mono (show 1 + 1 ≤ k + 6 by omega)) bIN .nil pass0 (by rfl) gE (pa_cons pe_int pa_nil)))) pss_nil)
      (pss_cons (ps_if (pt_not (pt_val (pe_call (GAL.mono (show k + 5 ≤ k + 6 by omega)) hr (by rfl) gAL kAL bAL .nil pass0 (pa_cons (pv 4) pa_nil)))) (pss_one (ps_raise rfl (takes_of rfl rfl rfl rfl) (pmk_oex TC.oex TC.iC TC.tI GIN (hr.mono (show 1 + 1 ≤ k + 6 by omega)) bIN .nil pass0 (by rfl) gE (pa_cons pe_int pa_nil)))) pss_nil)
      (pss_cons (ps_if (pt_truth (pe_call (GOU.mono (show k + 2 ≤ k + 6 by omega)) hr (by rfl) gOU kOU bOU .nil pass0 (pa_cons (pv 3) (pa_cons (pv 4) pa_nil))) (by intro _; rfl)) (pss_one (ps_raise rfl (takes_of rfl rfl rfl rfl) (pmk_oex TC.oex TC.iC TC.tI GIN (hr.mono (show 1 + 1 ≤ k + 6 by omega)) bIN .nil pass0 (by rfl) gE (pa_cons pe_int pa_nil)))) pss_nil)
      (pss_one (ps_ret (pe_makeL (i := 0) mk (GTI.mono (show k + 1 ≤ k + 5 by omega)) hr rfl (.inl rfl) bTI .nil pass0 (pa_cons (pv 3) (pa_cons (pv 4) pa_nil)))))))))))), ?_⟩
    have lc := NY.split_count NX.nlk NZ.nlkk x
    have lp := NY.split_part NX.nlk NZ.nlkk x
    refine ⟨.str x, rfl, ⟨_, rfl⟩, x, "\n", rfl, rfl, by decide +kernel, Nat.le_trans (Nat.add_le_add_right hl 2) (by decide), fun S nS => ?_⟩
    have hne : Txt.split x "\n" ≠ [] := fun z => NY.spl_ne 10 (TL.tl x) [] (by rw [← NY.split_map NX.nlk NZ.nlkk, z]; rfl)
    unfold pcn at hq hE
    generalize Txt.split x "\n" = ws at hne lc lp hq hE ⊢
    have sS := same_new (o := .lst (ws.map V.str)) nS
    have eS := upd_same (H := H) (a := S) (o := .lst (ws.map V.str))
    generalize upd H S (.lst (ws.map V.str)) = H0 at sS eS ⊢
    obtain ⟨r0, more, rfl⟩ := List.exists_cons_of_ne_nil hne
    have l0 := lp r0 List.mem_cons_self
    refine ⟨.ref S, rfl, S, _, 0, .str r0, rfl, rfl, SqL.of eS, at_of (j := 0) rfl rfl, r0, rfl, by omega, fun cs hc H1 c xs s1 ec pa => ?_, fun hn H1 dx s1 ndx => hE 0 (pcr_0 hn) H1 dx (sS.trans s1) ndx⟩
    have eS1 := s1 _ _ eS
    have s01 := sS.trans s1
    have lcs : cs.length ≤ 20001 := by have := okC_len hc; omega
    refine ⟨.ref S, rfl, S, _, rfl, .inl (SqL.of eS1), _, 2, rfl, rfl, _, rfl, ?_⟩
    cases more with
    | nil =>
      refine iteT (init_ends fun dx ndx => ?_)
      exact hE 1 (pcr_1 hc) _ _ s01 ndx
    | cons r1 rest =>
    have l1 := lp r1 (List.mem_cons_of_mem _ List.mem_cons_self)
    rw [decide_eq_false (show ¬ (((r0 :: r1 :: rest).map V.str).length : Int) < 2 by rw [List.length_map, List.length_cons, List.length_cons]; omega)]
    refine iteF ⟨.ref S, rfl, S, _, 1, .str r1, rfl, rfl, SqL.of eS1, at_of (j := 1) rfl rfl, r1, rfl, by omega, fun ns hns H2 p s2 ep => ?_, fun hn H2 dx s2 ndx => hE 1 (pcr_2 hc hn) H2 dx (s01.trans s2) ndx⟩
    have eS2 := s2 _ _ eS1
    have s02 := s01.trans s2
    have lns : ns.length ≤ 20001 := by have := allS_len hns; have := rsr_len r1; omega
    refine ⟨.ref S, rfl, S, _, rfl, .inl (SqL.of eS2), _, 2, rfl, rfl, _, rfl, ?_⟩
    cases rest with
    | cons r2 rest =>
      rw [decide_eq_true (show (2 : Int) < (((r0 :: r1 :: r2 :: rest).map V.str).length : Int) by rw [List.length_map, List.length_cons, List.length_cons, List.length_cons]; omega)]
      refine iteT (init_ends fun dx ndx => ?_)
      exact hE 2 (pcr_3 hc hns) _ _ s02 ndx
    | nil =>
    refine iteF ⟨.ref p, rfl, p, ns, rfl, ep, by omega, fun H3 s3 => ⟨_, rfl, ?_⟩⟩
    have ep3 := s3 _ _ ep
    have ec3 := s3 _ _ (s2 _ _ ec)
    have pa3 := (pa.same s2).same s3
    have s03 := s02.trans s3
    cases hlf : leftB ns with
    | false =>
      refine iteT (init_ends fun dx ndx => ?_)
      exact hE 1 (pcr_4 hc hns hlf) _ _ s03 ndx
    | true =>
    refine iteF ⟨.ref c, rfl, .ref p, rfl, c, p, xs, cs, ns, rfl, ec3, pa3, ep3, by omega, by omega, fun H4 q ys s4 eq hy => ?_⟩
    have s04 := s03.trans s4
    refine ⟨_, .inl ⟨_, SqL.of eq, rfl⟩, ?_⟩
    rw [hy]
    cases hib : inB cs ns with
    | false =>
      refine iteT (init_ends fun dx ndx => ?_)
      exact hE 0 (pcr_5 hc hns hlf hib) _ _ s04 ndx
    | true =>
    have ec4 := s4 _ _ ec3
    have ep4 := s4 _ _ ep3
    refine iteF ⟨rfl, .ref c, rfl, .ref p, rfl, fun t dx nt ndx ne => ?_⟩
    have s5 : Same H4 (upd (upd H4 dx (.own t)) t (.ins C dx [])) := (same_new ndx).trans (same_new (by rw [upd_ne ne.symm]; exact nt))
    refine ⟨t, c, p, dx, xs, cs, ns, rfl, upd_same, s5 _ _ ec4, (pa3.same s4).same s5, s5 _ _ ep4, fun H' ds keep ca perm srt => ⟨rfl, ?_⟩⟩
    have ed : ds = cs := sorted_same perm srt (okC_some hc).2
    subst ed
    have s6 : Same H4 H' := fun b o e => keep b o (ne_of_none e nt) (s5 _ _ e)
    exact hq ds ns (pcr_6 hc hns hlf hib) H' t (s04.trans s6) ca
end
end Y7X

/-! cycles put into a swing that is around them; the greatest swing of a rest -/
namespace K31
open PM RM
/-- a pair put in between y and b -/
theorem zz_ins_up {y h l b : Int} {post : List Int} (h1 : y < h) (h2 : l < h) (h3 : l < b) : ∀ q : List Int, y < b → ZZ (q ++ y :: b :: post) → ZZ (q ++ y :: h :: l :: b :: post)
  | [], hy, z => by
    refine ⟨.inl ⟨h1, h2⟩, .inr ⟨h2, h3⟩, ?_⟩
    cases post with
    | nil => show l ≠ b; omega
    | cons p post =>
      have := z.1
      exact ⟨.inl ⟨h3, by omega⟩, z.2⟩
  | [x], hy, z => by
    have z1 : ((x < y ∧ b < y) ∨ (y < x ∧ y < b)) := z.1
    exact ⟨.inr ⟨by omega, h1⟩, zz_ins_up h1 h2 h3 [] hy z.2⟩
  | x :: x2 :: q, hy, z => by
    cases q with
    | nil =>
      have z1 : ((x < x2 ∧ y < x2) ∨ (x2 < x ∧ x2 < y)) := z.1
      exact ⟨z1, zz_ins_up h1 h2 h3 [x2] hy z.2⟩
    | cons x3 q => exact ⟨z.1, zz_ins_up h1 h2 h3 (x2 :: x3 :: q) hy z.2⟩
theorem zz_ins_dn {y h l b : Int} {post : List Int} (h1 : l < y) (h2 : l < h) (h3 : b < h) : ∀ q : List Int, b < y → ZZ (q ++ y :: b :: post) → ZZ (q ++ y :: l :: h :: b :: post)
  | [], hy, z => by
    refine ⟨.inr ⟨h1, h2⟩, .inl ⟨h2, h3⟩, ?_⟩
    cases post with
    | nil => show h ≠ b; omega
    | cons p post =>
      have := z.1
      exact ⟨.inr ⟨h3, by omega⟩, z.2⟩
  | [x], hy, z => by
    have z1 : ((x < y ∧ b < y) ∨ (y < x ∧ y < b)) := z.1
    exact ⟨.inl ⟨by omega, h1⟩, zz_ins_dn h1 h2 h3 [] hy z.2⟩
  | x :: x2 :: q, hy, z => by
    cases q with
    | nil =>
      have z1 : ((x < x2 ∧ y < x2) ∨ (x2 < x ∧ x2 < y)) := z.1
      exact ⟨z1, zz_ins_dn h1 h2 h3 [x2] hy z.2⟩
    | cons x3 q => exact ⟨z.1, zz_ins_dn h1 h2 h3 (x2 :: x3 :: q) hy z.2⟩
theorem step_pre {p q : List Int} {c : Int × Int} (s : Step p c q) : ∀ l : List Int, Step (l ++ p) c (l ++ q)
  | [] => s
  | _ :: l => .there (step_pre s l)
/-- the points that are put in on the way up -/
def up : List (Int × Int) → List Int
  | [] => []
  | c :: cs => c.2 :: c.1 :: up cs
def dn : List (Int × Int) → List Int
  | [] => []
  | c :: cs => c.1 :: c.2 :: dn cs
theorem up_app (cs ds : List (Int × Int)) : up (cs ++ ds) = up cs ++ up ds := by
  induction cs with
  | nil => rfl
  | cons c cs ih => rw [List.cons_append]; show _ :: _ :: up (cs ++ ds) = _; rw [ih]; rfl
theorem dn_app (cs ds : List (Int × Int)) : dn (cs ++ ds) = dn cs ++ dn ds := by
  induction cs with
  | nil => rfl
  | cons c cs ih => rw [List.cons_append]; show _ :: _ :: dn (cs ++ ds) = _; rw [ih]; rfl
/-- the point ahead of the last cycle -/
theorem up_last {x lo : Int} : ∀ cs : List (Int × Int), x ≤ lo → (∀ c ∈ cs, c.1 ≤ lo) → ∃ q y, x :: up cs = q ++ [y] ∧ y ≤ lo
  | [], h, _ => ⟨[], x, rfl, h⟩
  | c :: cs, h, hc => by
    obtain ⟨q, y, e, hy⟩ := up_last (x := c.1) cs (hc c List.mem_cons_self) fun d hd => hc d (List.mem_cons_of_mem _ hd)
    refine ⟨x :: c.2 :: q, y, ?_, hy⟩
    show x :: c.2 :: c.1 :: up cs = _
    rw [e]; rfl
theorem dn_last {x hi : Int} : ∀ cs : List (Int × Int), hi ≤ x → (∀ c ∈ cs, hi ≤ c.2) → ∃ q y, x :: dn cs = q ++ [y] ∧ hi ≤ y
  | [], h, _ => ⟨[], x, rfl, h⟩
  | c :: cs, h, hc => by
    obtain ⟨q, y, e, hy⟩ := dn_last (x := c.2) cs (hc c List.mem_cons_self) fun d hd => hc d (List.mem_cons_of_mem _ hd)
    refine ⟨x :: c.1 :: q, y, ?_, hy⟩
    show x :: c.1 :: c.2 :: dn cs = _
    rw [e]; rfl
/-- on the way up: they go out again, the last one first -/
theorem up_run {x b : Int} {post : List Int} (pre : List Int) (hxb : x < b) (z0 : ZZ (pre ++ x :: b :: post)) : ∀ cs : List (Int × Int), (∀ c ∈ cs, x ≤ c.1 ∧ c.1 < c.2 ∧ c.2 ≤ b) → cs.Pairwise (fun c d => c.1 ≤ d.1) →
    Run (pre ++ (x :: up cs) ++ b :: post) cs.reverse (pre ++ x :: b :: post) ∧ ZZ (pre ++ (x :: up cs) ++ b :: post) := by
  intro cs
  obtain ⟨ds, hds⟩ : ∃ ds, ds = cs.reverse := ⟨_, rfl⟩
  induction ds generalizing cs with
  | nil =>
    intro _ _
    obtain rfl : cs = [] := by simpa using hds.symm
    exact ⟨by show Run (pre ++ [x] ++ b :: post) [] _; rw [List.append_assoc]; exact .nil _, by show ZZ (pre ++ [x] ++ b :: post); rw [List.append_assoc]; exact z0⟩
  | cons c ds ih =>
    intro hb hp
    have ec : cs = ds.reverse ++ [c] := by rw [← List.reverse_reverse cs, ← hds, List.reverse_cons]
    subst ec
    obtain ⟨r, z⟩ := ih ds.reverse (by rw [List.reverse_reverse]) (fun d hd => hb d (List.mem_append_left _ hd)) (List.pairwise_append.mp hp).1
    have hc := hb c (by simp)
    have hl : ∀ d ∈ ds.reverse, d.1 ≤ c.1 := fun d hd => (List.pairwise_append.mp hp).2.2 d hd c (by simp)
    obtain ⟨q, y, e, hy⟩ := up_last (x := x) ds.reverse hc.1 hl
    have e2 : pre ++ (x :: up (ds.reverse ++ [c])) ++ b :: post = (pre ++ q) ++ y :: c.2 :: c.1 :: b :: post := by
      rw [up_app, show x :: (up ds.reverse ++ up [c]) = (x :: up ds.reverse) ++ [c.2, c.1] from rfl, e]
      simp
    have e3 : pre ++ (x :: up ds.reverse) ++ b :: post = (pre ++ q) ++ y :: b :: post := by rw [e]; simp
    rw [e2]
    rw [e3] at r z
    have tk : Taken y c.2 c.1 b := by
      unfold Taken
      rw [rg_up (show y < c.2 by omega), rg_down hc.2.1, rg_up (show c.1 < b by omega)]
      dsimp only
      omega
    have st : Step ((pre ++ q) ++ y :: c.2 :: c.1 :: b :: post) (rg c.2 c.1) ((pre ++ q) ++ y :: b :: post) := step_pre (.here tk) _
    rw [rg_down hc.2.1] at st
    refine ⟨?_, zz_ins_up (by omega) hc.2.1 (by omega) _ (by omega) z⟩
    rw [List.reverse_append, List.reverse_reverse] at *
    exact .cons st (by simpa using r)
theorem dn_run {x b : Int} {post : List Int} (pre : List Int) (hxb : b < x) (z0 : ZZ (pre ++ x :: b :: post)) : ∀ cs : List (Int × Int), (∀ c ∈ cs, b ≤ c.1 ∧ c.1 < c.2 ∧ c.2 ≤ x) → cs.Pairwise (fun c d => d.2 ≤ c.2) →
    Run (pre ++ (x :: dn cs) ++ b :: post) cs.reverse (pre ++ x :: b :: post) ∧ ZZ (pre ++ (x :: dn cs) ++ b :: post) := by
  intro cs
  obtain ⟨ds, hds⟩ : ∃ ds, ds = cs.reverse := ⟨_, rfl⟩
  induction ds generalizing cs with
  | nil =>
    intro _ _
    obtain rfl : cs = [] := by simpa using hds.symm
    exact ⟨by show Run (pre ++ [x] ++ b :: post) [] _; rw [List.append_assoc]; exact .nil _, by show ZZ (pre ++ [x] ++ b :: post); rw [List.append_assoc]; exact z0⟩
  | cons c ds ih =>
    intro hb hp
    have ec : cs = ds.reverse ++ [c] := by rw [← List.reverse_reverse cs, ← hds, List.reverse_cons]
    subst ec
    obtain ⟨r, z⟩ := ih ds.reverse (by rw [List.reverse_reverse]) (fun d hd => hb d (List.mem_append_left _ hd)) (List.pairwise_append.mp hp).1
    have hc := hb c (by simp)
    have hl : ∀ d ∈ ds.reverse, c.2 ≤ d.2 := fun d hd => (List.pairwise_append.mp hp).2.2 d hd c (by simp)
    obtain ⟨q, y, e, hy⟩ := dn_last (x := x) ds.reverse hc.2.2 hl
    have e2 : pre ++ (x :: dn (ds.reverse ++ [c])) ++ b :: post = (pre ++ q) ++ y :: c.1 :: c.2 :: b :: post := by
      rw [dn_app, show x :: (dn ds.reverse ++ dn [c]) = (x :: dn ds.reverse) ++ [c.1, c.2] from rfl, e]
      simp
    have e3 : pre ++ (x :: dn ds.reverse) ++ b :: post = (pre ++ q) ++ y :: b :: post := by rw [e]; simp
    rw [e2]
    rw [e3] at r z
    have tk : Taken y c.1 c.2 b := by
      unfold Taken
      rw [rg_down (show c.1 < y by omega), rg_up hc.2.1, rg_down (show b < c.2 by omega)]
      dsimp only
      omega
    have st : Step ((pre ++ q) ++ y :: c.1 :: c.2 :: b :: post) (rg c.1 c.2) ((pre ++ q) ++ y :: b :: post) := step_pre (.here tk) _
    rw [rg_up hc.2.1] at st
    refine ⟨?_, zz_ins_dn (by omega) hc.2.1 (by omega) _ (by omega) z⟩
    rw [List.reverse_append, List.reverse_reverse] at *
    exact .cons st (by simpa using r)
/-- x is between a and b -/
def Bw (a b x : Int) : Prop := (a ≤ x ∧ x ≤ b) ∨ (b ≤ x ∧ x ≤ a)
theorem nf_tail {x : Int} {p : List Int} (h : NF (x :: p)) : NF p := fun c q s => h c _ (.there s)
/-- behind a swing that is not less than the next one, all lies within it -/
theorem right_in : ∀ (l : List Int) (a b c : Int), ZZ (a :: b :: c :: l) → NF (a :: b :: c :: l) → Bw a b c → ∀ x ∈ c :: l, Bw a b x
  | [], a, b, c, _, _, h, x, hx => by
    obtain rfl : x = c := by simpa using hx
    exact h
  | d :: l, a, b, c, z, n, h, x, hx => by
    rcases List.mem_cons.mp hx with rfl | hx
    · exact h
    have nt : ¬ Taken a b c d := fun t => n _ _ (.here t)
    have z4 := ZZ.four z
    have hcd : Bw b c d := by
      rw [taken_iff z4] at nt
      have z1 := z4.1
      have z2 := z4.2.1
      unfold Bw at h ⊢
      omega
    have := right_in l b c d (ZZ.tail z) (nf_tail n) hcd x hx
    unfold Bw at h this ⊢
    omega
/-- one swing of a rest is around all its points -/
theorem swing_all : ∀ (l : List Int) (x y : Int), ZZ (x :: y :: l) → NF (x :: y :: l) → ∃ pre a b post, x :: y :: l = pre ++ a :: b :: post ∧ ∀ u ∈ x :: y :: l, Bw a b u
  | [], x, y, _, _ => ⟨[], x, y, [], rfl, fun u hu => by
      simp only [List.mem_cons, List.not_mem_nil, or_false] at hu
      unfold Bw
      rcases hu with rfl | rfl <;> omega⟩
  | w :: l, x, y, z, n => by
    by_cases h : Bw x y w
    · refine ⟨[], x, y, w :: l, rfl, fun u hu => ?_⟩
      rcases List.mem_cons.mp hu with rfl | hu
      · unfold Bw; omega
      rcases List.mem_cons.mp hu with rfl | hu
      · unfold Bw; omega
      exact right_in l x y w z n h u hu
    · obtain ⟨pre, a, b, post, e, hall⟩ := swing_all l y w (ZZ.tail z) (nf_tail n)
      refine ⟨x :: pre, a, b, post, by rw [e]; rfl, fun u hu => ?_⟩
      rcases List.mem_cons.mp hu with rfl | hu
      · have hy := hall y (by simp)
        have hw := hall w (by simp)
        have z1 := z.1
        unfold Bw at h hy hw ⊢
        omega
      · exact hall u hu
end K31

/-! cycles lie in the range of the rest -/
namespace K31
open PM RM
theorem rg_lt {a b : Int} (h : a ≠ b) : (rg a b).1 < (rg a b).2 := by
  rcases Int.lt_or_lt_of_ne h with h | h
  · rw [rg_up h]; exact h
  · rw [rg_down h]; exact h
theorem step_in {p q : List Int} {c : Int × Int} (h : Step p c q) : ZZ p → c.1 < c.2 ∧ (∃ x ∈ q, x ≤ c.1) ∧ (∃ x ∈ q, c.2 ≤ x) ∧ ∀ x ∈ p, (∃ y ∈ q, y ≤ x) ∧ ∃ y ∈ q, x ≤ y := by
  induction h with
  | @here a b c d post t =>
    intro z
    have za := z.tail
    have hne := zz_cons za
    refine ⟨rg_lt hne, ?_⟩
    have ti := (taken_iff z.four).mp t
    have ma : a ∈ a :: d :: post := List.mem_cons_self
    have md : d ∈ a :: d :: post := List.mem_cons_of_mem _ List.mem_cons_self
    rcases ti with ti | ti
    · rw [rg_down ti.2.1]
      refine ⟨⟨a, ma, ti.2.2.2.1⟩, ⟨d, md, ti.2.2.2.2⟩, fun x hx => ?_⟩
      rcases List.mem_cons.mp hx with rfl | hx
      · exact ⟨⟨_, ma, Int.le_refl _⟩, ⟨_, ma, Int.le_refl _⟩⟩
      rcases List.mem_cons.mp hx with rfl | hx
      · exact ⟨⟨a, ma, by omega⟩, ⟨d, md, by omega⟩⟩
      rcases List.mem_cons.mp hx with rfl | hx
      · exact ⟨⟨a, ma, by omega⟩, ⟨d, md, by omega⟩⟩
      · have mx : x ∈ a :: d :: post := List.mem_cons_of_mem _ hx
        exact ⟨⟨_, mx, Int.le_refl _⟩, ⟨_, mx, Int.le_refl _⟩⟩
    · rw [rg_up ti.2.1]
      refine ⟨⟨d, md, by dsimp only; omega⟩, ⟨a, ma, by dsimp only; omega⟩, fun x hx => ?_⟩
      rcases List.mem_cons.mp hx with rfl | hx
      · exact ⟨⟨_, ma, Int.le_refl _⟩, ⟨_, ma, Int.le_refl _⟩⟩
      rcases List.mem_cons.mp hx with rfl | hx
      · exact ⟨⟨d, md, by omega⟩, ⟨a, ma, by omega⟩⟩
      rcases List.mem_cons.mp hx with rfl | hx
      · exact ⟨⟨d, md, by omega⟩, ⟨a, ma, by omega⟩⟩
      · have mx : x ∈ a :: d :: post := List.mem_cons_of_mem _ hx
        exact ⟨⟨_, mx, Int.le_refl _⟩, ⟨_, mx, Int.le_refl _⟩⟩
  | @there x p q cy h ih =>
    intro z
    obtain ⟨h0, ⟨u, hu, h1⟩, ⟨v, hv, h2⟩, h3⟩ := ih z.tail
    refine ⟨h0, ⟨u, List.mem_cons_of_mem _ hu, h1⟩, ⟨v, List.mem_cons_of_mem _ hv, h2⟩, fun y hy => ?_⟩
    rcases List.mem_cons.mp hy with rfl | hy
    · exact ⟨⟨_, List.mem_cons_self, Int.le_refl _⟩, ⟨_, List.mem_cons_self, Int.le_refl _⟩⟩
    · obtain ⟨⟨u, hu, h1⟩, ⟨v, hv, h2⟩⟩ := h3 y hy
      exact ⟨⟨u, List.mem_cons_of_mem _ hu, h1⟩, ⟨v, List.mem_cons_of_mem _ hv, h2⟩⟩
theorem run_in {p q : List Int} {cs : List (Int × Int)} (h : Run p cs q) : ZZ p → (∀ c ∈ cs, c.1 < c.2 ∧ (∃ x ∈ q, x ≤ c.1) ∧ ∃ x ∈ q, c.2 ≤ x) ∧ ∀ x ∈ p, (∃ y ∈ q, y ≤ x) ∧ ∃ y ∈ q, x ≤ y := by
  induction h with
  | nil p => exact fun _ => ⟨fun _ hc => (List.not_mem_nil hc).elim, fun x hx => ⟨⟨x, hx, Int.le_refl _⟩, ⟨x, hx, Int.le_refl _⟩⟩⟩
  | @cons p q r c cs s _ ih =>
    intro z
    obtain ⟨h0, ⟨u, hu, h1⟩, ⟨v, hv, h2⟩, h3⟩ := step_in s z
    obtain ⟨i1, i2⟩ := ih (ZZ.step s z)
    refine ⟨fun d hd => ?_, fun x hx => ?_⟩
    · rcases List.mem_cons.mp hd with rfl | hd
      · obtain ⟨⟨a, ha, a1⟩, _⟩ := i2 u hu
        obtain ⟨_, ⟨b, hb, b1⟩⟩ := i2 v hv
        exact ⟨h0, ⟨a, ha, by omega⟩, ⟨b, hb, by omega⟩⟩
      · exact i1 d hd
    · obtain ⟨⟨u, hu, h1⟩, ⟨v, hv, h2⟩⟩ := h3 x hx
      obtain ⟨⟨a, ha, a1⟩, _⟩ := i2 u hu
      obtain ⟨_, ⟨b, hb, b1⟩⟩ := i2 v hv
      exact ⟨⟨a, ha, by omega⟩, ⟨b, hb, by omega⟩⟩
/-- among two points and more that go up and down the least and the greatest differ -/
theorem zz_two {x y : Int} {l : List Int} (z : ZZ (x :: y :: l)) {mn mx : Int} (h2 : ∀ u ∈ x :: y :: l, mn ≤ u) (h4 : ∀ u ∈ x :: y :: l, u ≤ mx) : mn < mx := by
  have := zz_cons z
  have a := h2 x List.mem_cons_self
  have b := h2 y (List.mem_cons_of_mem _ List.mem_cons_self)
  have c := h4 x List.mem_cons_self
  have d := h4 y (List.mem_cons_of_mem _ List.mem_cons_self)
  omega
end K31

/-! e.m(..), m a classmethod that may raise, within a try -/
namespace GCM
open PySem PySem.Spec PyProof.Rows L2 ClX
section
variable {X : Cx} {CX : CXT} {k : Nat} {C p g q : Addr} {mc : Value} {sp : Sp} {E : L2.St → XK} {o e : Expr} {es : List Expr} {f m : Str} {pos apos : Pos} {ta : TE} {t : TA} {pl : Sem Bool} {pins : List (Addr × Obj)} {σ : L2.St} {H : Hp} {s : Shared} {Q : VK} {us : List Value} {vs : List V}
theorem run_fnRS (F : FnR X.prog X.w X.K X.mg X.base CX k g sp) (hr : Room k X.A) (hx : PassesAt CX X σ (E σ)) (I : Inv X pins σ H s) (r : Vals vs us) (h : sp vs H Q (E σ)) :
    codeAny (model X.prog X.w) X.A (.call (.ref g) ⟨us, []⟩) (fun r s' => match r with | .ok (.ret v) => EP X pins σ Q v s' | .ok _ => False | .error e => X.xe e s') s := by
  refine codeAny_mono (F X.A X.stack s H us vs Q (E σ) hr I.env0 r h) fun r s' hq => ?_
  cases r with
  | error e => exact hx pins H s e s' I hq
  | ok fl =>
    cases fl with
    | ret u => exact I.after hq
    | next => exact False.elim hq
    | brk => exact False.elim hq
    | cont => exact False.elim hq
theorem run_cmS (F : FnR X.prog X.w X.K X.mg X.base CX k g sp) (hr : Room k X.A) (hx : PassesAt CX X σ (E σ)) (I : Inv X ((q, PySem.W.methodObj (.ref g) (.ref C)) :: pins) σ H s)
    (r : Vals vs us) (h : sp (.ref C :: vs) H Q (E σ)) : wpAny (model X.prog X.w) X.A (call (.ref q) us) (EP X pins σ Q) X.xe s := by
  have z : wpAny (model X.prog X.w) X.A (call (.ref q) us) (EP X ((q, PySem.W.methodObj (.ref g) (.ref C)) :: pins) σ Q) X.xe s :=
    wpAny_call (PySem.W.method_call (pin_at I) (run_fnRS (us := .ref C :: us) (vs := .ref C :: vs) F hr hx I (.cons rfl r) h))
  exact thn z fun _ _ y => unpinE y
def tCMethS (C : Addr) (sp : Sp) (E : L2.St → XK) (ta : TE) (t : TA) : TE := fun σ H Q => ta σ H fun x H1 => x = .ref C ∧ t σ H1 fun vs H2 => sp (.ref C :: vs) H2 Q (E σ)
theorem pe_cmethS (he : PE X o ta) (r : CRead X.K C mc) (c : CMet X.K C mc m p g) (F : FnR X.prog X.w X.K X.mg X.base CX k g sp) (hr : Room k X.A) (hx : ∀ σ, PassesAt CX X σ (E σ)) (ha : PA X (e :: es) t)
    (hst : starEach (e :: es) X.env = (false, eval e X.env) :: starEach es X.env := by rfl) (hpl : (backTo pos (starEach es X.env)).any (·.1) = false := by rfl)
    (ht : eval (.Call (.Attribute o m apos) (e :: es) [] pos) X.env = (do
      let ov ← eval o X.env
      standAt apos.atName
      let (f, first) ← holding [ov] (getMethod ov m pl)
      callWith pos f first (backTo pos (starEach (e :: es) X.env)) (backToKw pos (keywordEach [] X.env))) := by rfl) :
    PE X (.Call (.Attribute o m apos) (e :: es) [] pos) (tCMethS C sp E ta t) := by
  refine ⟨fun pins s σ H Q I h => ?_⟩
  refine PySem.W.methodCall_KW (pl := pl) (thn (he.run pins s σ H _ I h) fun u s1 ⟨x, H1, I1, rx, ex, q⟩ => ?_) ht
  subst ex
  obtain rfl : u = Value.ref C := rx
  refine getmethcm_ok I1 r c fun s2 I2 => ?_
  refine callwith_cm I2 (base_none I1 (Nat.le_refl _)) c.fi (thn (ha.run pos _ s2 σ H1 _ I2 q) fun us s3 ⟨vs, H2, I3, rv, q2⟩ => ⟨⟨pin_at I3, I3.kIn⟩, ?_⟩) hst hpl
  exact run_cmS F hr (hx σ) I3 rv q2
end
end GCM

/-! walks and items of what is a list or a tuple; keyword-only parameters -/
namespace GB
open PySem PySem.Spec PyProof.Rows L2 PH KA
section
variable {X : Cx} {tg l : Expr} {tl : TE}
def iBoth (K : PySem.W.Frag) (tl : TE) : TI := fun σ H R => tl σ H fun x H1 => ∃ a, x = .ref a ∧ (((∃ xs, SqL K H1 a xs) ∧ R (Itl K a) H1) ∨ ((∃ xs, SqT K H1 a xs) ∧ R (Itt K a) H1))
theorem pi_both (hl : PE X l tl) : PI X tg l (iBoth X.K tl) := by
  refine ⟨fun pins s σ H R I h => ?_⟩
  refine thn (hl.run pins s σ H _ I h) fun v s1 ⟨x, H1, I1, r1, q1⟩ => ?_
  obtain ⟨a, e, q⟩ := q1
  subst e
  cases r1
  rcases q with ⟨⟨xs, hq⟩, q⟩ | ⟨⟨xs, hq⟩, q⟩
  · obtain ⟨its, rv, p, hz⟩ := I1.list hq
    refine wpAny_pyIter_list p.isList ?_
    refine ⟨s1.heap.objs.size, [s1.heap.objs.size], _, _, H1, rfl, I1.kept (t' := s1.toks) fun b o e => Heap.get?_push_of_some _ e, turn_list a _, ⟨_, Heap.get?_push_size _ rfl, rfl, rfl⟩, fun b hb => ?_, q⟩
    have e : b = s1.heap.objs.size := by simpa using hb
    subst e
    exact I1.fpOk (Nat.le_refl _) (I1.hok.fresh (Nat.le_refl _))
  · obtain ⟨its, rv, p, hz⟩ := I1.tuple hq
    refine wpAny_pyIter_tuple (show s1.heap.IsTuple a its.toArray from p) ?_
    refine ⟨s1.heap.objs.size, [s1.heap.objs.size], _, _, H1, rfl, I1.kept (t' := s1.toks) fun b o e => Heap.get?_push_of_some _ e, turn_tuple a _, ⟨_, Heap.get?_push_size _ rfl, rfl, rfl⟩, fun b hb => ?_, q⟩
    have e : b = s1.heap.objs.size := by simpa using hb
    subst e
    exact I1.fpOk (Nat.le_refl _) (I1.hok.fresh (Nat.le_refl _))
def rIxB (K : PySem.W.Frag) : R2 := fun x y H Q => ∃ p xs i v, x = .ref p ∧ y = .int i ∧ Sq K H p xs ∧ atI xs i = some v ∧ Q v H
theorem ix_both : IxR X (rIxB X.K) := by
  intro value slice pins s σ H x y v u Q I rx ry ⟨p, xs, i, z, e1, e2, hq, he, q⟩ hs
  rcases hq with hq | hq
  · exact ix_list value slice pins s σ H x y v u Q I rx ry ⟨p, xs, i, z, e1, e2, hq, he, q⟩ hs
  · exact ix_tup value slice pins s σ H x y v u Q I rx ry ⟨p, xs, i, z, e1, e2, hq, he, q⟩ hs
end
/-- f(e, .., k = v): the keyword-only parameter is named -/
theorem kbn1 {K : PySem.W.Frag} {x qual : Str} {params : Arguments} {body : List Stmt} {scope : Scope} {kws : List (Str × V)} {f : Addr} {fd : FuncData} {ps : List Str} {k : Str} (F : FunD K x qual params body scope [] kws f fd) (n : Nat)
    (h : ∀ (kV doc pm : Value) (an : Option Addr) (cdv ct : Value) (us : List Value) (w : Value), us.length = n → bindArgs (PySem.W.fnOf x qual params body scope .none kV doc pm an cdv ct) ⟨us, [(k, w)]⟩ = pure (ps.zip (us ++ [w]))) :
    KBn K fd ps n [k] (fun us ws => us ++ ws) (fun vs zs => vs ++ zs) := by
  obtain ⟨oc, od, dV, kV, doc, pm, an, cdv, ct, osl, rfl, lk, hcd, hD, hK⟩ := F.ex
  rcases hD with ⟨_, rfl⟩ | ⟨e, _⟩
  · refine ⟨fun s us ws X l1 l2 => ?_, fun r1 r2 => r1.append r2⟩
    match ws, l2 with
    | [w], _ => exact .of_eq (h kV doc pm an cdv ct us w l1)
  · exact absurd rfl e
end GB

set_option pp.maxSteps 900
/-! k07: the law's own numbers and rows, what parse tells -/
namespace Y7R
open PySem PySem.Spec PyProof.Rows L2 KA PH PM PA PB PC RM RN RS RJ QE QF QG QH QK QL XE Y7X UJN WP WF2
open NX (rdw tI)
open NZ (cyw cyr rsr allS OkC)
open K9 (Cn cn_one)
abbrev sLN : Stmt := topS 42
abbrev sLC : Stmt := topS 43
abbrev sDU : Stmt := topS 44
abbrev sTO : Stmt := topS 45
abbrev sRR : Stmt := topS 46
theorem scLN : FnScope ["word", "digits", "sign"] ["word"] (defScope sLN) := ⟨rfl, rfl, rfl, by decide +kernel, rfl, by decide +kernel, by decide +kernel⟩
theorem scLC : FnScope ["row", "found", "word", "numbers", "part"] ["row"] (defScope sLC) := ⟨rfl, rfl, rfl, by decide +kernel, rfl, by decide +kernel, by decide +kernel⟩
theorem scDU : FnScope ["text", "rows", "cycles", "rest", "cycle", "word"] ["text"] (defScope sDU) := ⟨rfl, rfl, rfl, by decide +kernel, rfl, by decide +kernel, by decide +kernel⟩
theorem scTO : FnScope ["text", "caught", "found", "error"] ["text"] (defScope sTO) := ⟨rfl, rfl, rfl, by decide +kernel, rfl, by decide +kernel, by decide +kernel⟩
theorem scRR : FnScope ["text", "load", "halves", "found", "count", "low", "high"] ["text", "load", "halves"] (defScope sRR) := ⟨rfl, rfl, rfl, by decide +kernel, rfl, by decide +kernel, by decide +kernel⟩
theorem cut1 (z : Str) : TL.tl (cutS z none (some ((1 : Nat) : Int))) = (TL.tl z).take 1 := by
  show (z.cps.toList.drop (HT.sIx z.length 0 none)).take (HT.sIx z.length z.length (some ((1 : Nat) : Int)) - HT.sIx z.length 0 none) = _
  rw [HT.sIx_none, HT.sIx_nat, List.drop_zero, Nat.sub_zero]
  have h : z.length = z.cps.toList.length := TL.len_tl z
  show z.cps.toList.take (min 1 z.length) = z.cps.toList.take 1
  by_cases k : 1 ≤ z.length
  · rw [Nat.min_eq_left k]
  · have : z.cps.toList = [] := List.length_eq_zero_iff.mp (by omega)
    rw [this, List.take_nil, List.take_nil]
theorem cutf (z : Str) : TL.tl (cutS z (some ((1 : Nat) : Int)) none) = (TL.tl z).drop 1 := by
  show (z.cps.toList.drop (HT.sIx z.length 0 (some ((1 : Nat) : Int)))).take (HT.sIx z.length z.length none - HT.sIx z.length 0 (some ((1 : Nat) : Int))) = _
  rw [HT.sIx_none, HT.sIx_nat]
  have h : z.length = z.cps.toList.length := TL.len_tl z
  show (z.cps.toList.drop (min 1 z.length)).take (z.length - min 1 z.length) = z.cps.toList.drop 1
  by_cases k : 1 ≤ z.length
  · rw [Nat.min_eq_left k, List.take_of_length_le (by rw [List.length_drop]; omega)]
  · have : z.cps.toList = [] := List.length_eq_zero_iff.mp (by omega)
    rw [this, List.drop_nil, List.drop_nil, List.take_nil]
def ttS : TT := tTest (tOp (fun x y H Q => ∃ (c : Nat) (z : Str), x = .str ⟨#[c]⟩ ∧ y = .str z ∧ Q (.bl (!decide (c ∈ z.cps.toList))) H) (tVar 2) (tC (V.str "0123456789")))
theorem digs : TL.tl ("0123456789" : Str) = [48, 49, 50, 51, 52, 53, 54, 55, 56, 57] := by decide +kernel
theorem in_digs {c : Nat} : decide (c ∈ ("0123456789" : Str).cps.toList) = (decide (48 ≤ c) && decide (c ≤ 57)) := by
  have e : ("0123456789" : Str).cps.toList = [48, 49, 50, 51, 52, 53, 54, 55, 56, 57] := digs
  rw [e]
  by_cases h : 48 ≤ c ∧ c ≤ 57
  · rw [decide_eq_true h.1, decide_eq_true h.2]
    refine decide_eq_true ?_
    simp only [List.mem_cons, List.not_mem_nil, or_false]
    omega
  · have : (decide (48 ≤ c) && decide (c ≤ 57)) = false := by
      rw [Bool.and_eq_false_iff]
      by_cases k : 48 ≤ c
      · right; exact decide_eq_false (by omega)
      · left; exact decide_eq_false k
    rw [this]
    refine decide_eq_false fun z => ?_
    simp only [List.mem_cons, List.not_mem_nil, or_false] at z
    omega
/-- the signs of a list that are no digits -/
def odds (l : List Nat) : List Nat := l.filter fun c => !(decide (48 ≤ c) && decide (c ≤ 57))
theorem odds_nil {l : List Nat} : odds l = [] ↔ NumText.AllDigits l := by
  unfold odds
  rw [List.filter_eq_nil_iff]
  constructor
  · intro h c hc
    have := h c hc
    simp at this
    omega
  · intro h c hc
    have := h c hc
    simp
    omega
def sgn (c : Nat) : V := .str ⟨#[c]⟩
def dSg (l : List Nat) : List PyData := l.map fun c => .str ⟨#[c]⟩
theorem dp_sg {K : PySem.W.Frag} {H : Hp} : ∀ l : List Nat, DpAll K H (l.map sgn) (dSg l)
  | [] => .nil
  | c :: l => .cons (.str _) (dp_sg l)
theorem lay_sg : ∀ l : List Nat, (∀ c ∈ l, c < 128) → PyData.canLayAll0 (dSg l) = true
  | [], _ => rfl
  | c :: l, h => by
    show (PyData.canLay0 (.str ⟨#[c]⟩) && PyData.canLayAll0 (dSg l)) = true
    rw [lay_sg l fun d hd => h d (List.mem_cons_of_mem _ hd)]
    have hc := h c List.mem_cons_self
    have e : PyData.strOk ⟨#[c]⟩ = true := by
      unfold PyData.strOk
      simp
      omega
    simp only [PyData.canLay0, Bool.and_true]
    exact e
theorem depth_sg : ∀ l : List Nat, PyData.depthAll (dSg l) ≤ 3
  | [] => Nat.zero_le _
  | c :: l => by
    have h := depth_sg l
    show max (PyData.depth (.str ⟨#[c]⟩)) (PyData.depthAll (dSg l)) ≤ 3
    simp only [PyData.depth]
    omega
theorem shaped_sg (l : List Nat) (h : ∀ c ∈ l, c < 128) : SeqAt.shaped (.list (dSg l)) = true :=
  shaped_of (by simp only [PyData.canLay0]; exact lay_sg l h) (by have := depth_sg l; simp only [PyData.depth]; omega)
theorem ev_sg (l : List Nat) : PyData.eqv (.list (dSg l)) (.list []) = decide (l = []) := by
  cases l with
  | nil => rfl
  | cons _ _ => rfl
/-- the word without its sign -/
theorem dig_tl {d x : Str} (h : (∃ l, TL.tl x = 45 :: l ∧ TL.tl d = l) ∨ ((∀ l, TL.tl x ≠ 45 :: l) ∧ d = x)) : d = Txt.removeprefix x "-" := by
  rcases h with ⟨l, h1, h2⟩ | ⟨h1, h2⟩
  · exact TL.ext_tl (by rw [h2, NX.rp_neg h1])
  · rw [NX.rp_pos h1, h2]
theorem rdw_dig {x : Str} {n : Int} (h : rdw x = some n) : 1 ≤ (Txt.removeprefix x "-").length ∧ (Txt.removeprefix x "-").length ≤ 10 ∧ NumText.AllDigits (TL.tl (Txt.removeprefix x "-")) := by
  obtain ⟨rfl, hb⟩ := NY.rdw_back h
  have e := NX.rp_int n
  rw [TL.len_tl, e]
  have l10 := TL.numL_len (n := n.natAbs) (k := 10) (by decide) (Nat.lt_of_le_of_lt hb (by decide))
  refine ⟨?_, l10, TL.numL_digits _⟩
  cases k : TL.numL n.natAbs with
  | nil => exact absurd k (TL.numL_ne _)
  | cons _ _ => exact Nat.succ_pos _
theorem val_lt : ∀ (n : Nat) (cs : List Nat), cs.length = n → NumText.AllDigits cs → NumText.digitsVal cs < 10 ^ n := by
  intro n
  induction n with
  | zero => intro cs h _; rw [List.length_eq_zero_iff.mp h]; decide
  | succ n ih =>
    intro cs hl hd
    rcases List.eq_nil_or_concat cs with e | ⟨ds, c, e⟩
    · rw [e] at hl; cases hl
    rw [List.concat_eq_append] at e
    subst e
    have hc := hd c (by simp)
    rw [List.length_append, List.length_singleton] at hl
    have := ih ds (by omega) fun x hx => hd x (List.mem_append_left _ hx)
    rw [NY.digitsVal_snoc, Nat.pow_succ]
    omega
theorem read_dig {x : Str} (h : NumText.AllDigits (TL.tl (Txt.removeprefix x "-"))) (hne : TL.tl (Txt.removeprefix x "-") ≠ []) (h10 : (Txt.removeprefix x "-").length ≤ 10) (hl : x.length ≤ 4300) : ∃ n : Int, PySem.intText? x = some n ∧ n.natAbs < 2 ^ 39 := by
  have b : NumText.digitsVal (TL.tl (Txt.removeprefix x "-")) < 2 ^ 39 := by
    have := val_lt _ _ rfl h
    rw [TL.len_tl] at h10
    exact Nat.lt_of_lt_of_le this (Nat.le_trans (Nat.pow_le_pow_right (by decide) h10) (by decide))
  by_cases c : ∃ l, TL.tl x = 45 :: l
  · obtain ⟨l, e⟩ := c
    rw [NX.rp_neg e] at h hne b
    exact ⟨_, PySem.intText_neg e h hne hl, by rw [Int.natAbs_neg, Int.natAbs_natCast]; exact b⟩
  · rw [NX.rp_pos fun l z => c ⟨l, z⟩] at h hne b
    exact ⟨_, PySem.intText_digits h hne hl, by rw [Int.natAbs_natCast]; exact b⟩
theorem rp_len {x : Str} : x.length ≤ (Txt.removeprefix x "-").length + 1 ∧ (Txt.removeprefix x "-").length ≤ x.length := by
  by_cases c : ∃ l, TL.tl x = 45 :: l
  · obtain ⟨l, e⟩ := c
    have := NX.rp_neg e
    rw [TL.len_tl, TL.len_tl (Txt.removeprefix x "-"), this, e]
    show l.length + 1 ≤ l.length + 1 ∧ l.length ≤ l.length + 1
    omega
  · rw [NX.rp_pos fun l z => c ⟨l, z⟩]
    omega
theorem rp_sub {x : Str} {c : Nat} (h : c ∈ TL.tl (Txt.removeprefix x "-")) : c ∈ TL.tl x := by
  by_cases k : ∃ l, TL.tl x = 45 :: l
  · obtain ⟨l, e⟩ := k
    rw [NX.rp_neg e] at h
    rw [e]
    exact List.mem_cons_of_mem _ h
  · rw [NX.rp_pos fun l z => k ⟨l, z⟩] at h
    exact h
/-- a text of ASCII signs -/
def Asc (x : Str) : Prop := ∀ c ∈ TL.tl x, c < 128
theorem spl_mem (s : Nat) : ∀ (l acc : List Nat), ∀ p ∈ TL.spl [s] 0 acc l, ∀ c ∈ p, c ∈ acc ∨ c ∈ l
  | [], acc, p, h, c, hc => by rw [TL.spl_nil, List.mem_singleton] at h; rw [h] at hc; exact .inl hc
  | d :: r, acc, p, h, c, hc => by
    by_cases e : d = s
    · rw [TL.spl_hit (by rw [NY.pre1]; exact decide_eq_true e)] at h
      rcases List.mem_cons.mp h with h | h
      · rw [h] at hc; exact .inl hc
      · rcases spl_mem s r [] p h c hc with k | k
        · exact absurd k (by simp)
        · exact .inr (List.mem_cons_of_mem _ k)
    · rw [TL.spl_miss (by rw [NY.pre1]; exact decide_eq_false e)] at h
      rcases spl_mem s r (acc ++ [d]) p h c hc with k | k
      · rcases List.mem_append.mp k with k | k
        · exact .inl k
        · exact .inr (by rw [List.mem_singleton.mp k]; exact List.mem_cons_self)
      · exact .inr (List.mem_cons_of_mem _ k)
theorem split_asc {x y : Str} {s : Nat} (ey : TL.tl y = [s]) (hk : y.cps.all (· < 256) = true) (h : Asc x) : ∀ p ∈ Txt.split x y, Asc p := fun p hp c hc => by
  rcases spl_mem s (TL.tl x) [] (TL.tl p) (by rw [← NY.split_map ey hk]; exact List.mem_map.mpr ⟨p, hp, rfl⟩) c hc with k | k
  · exact absurd k (by simp)
  · exact h c k
theorem step_mem {p q : List Int} {c : Int × Int} (h : Step p c q) : (∀ x ∈ q, x ∈ p) ∧ c.1 ∈ p ∧ c.2 ∈ p := by
  induction h with
  | @here a b c d post t =>
    refine ⟨fun x hx => ?_, ?_, ?_⟩
    · simp only [List.mem_cons] at hx ⊢
      rcases hx with e | e | e
      · exact .inl e
      · exact .inr (.inr (.inr (.inl e)))
      · exact .inr (.inr (.inr (.inr e)))
    · unfold rg; dsimp only; split <;> simp
    · unfold rg; dsimp only; split <;> simp
  | there _ ih => exact ⟨fun y hy => by
      rcases List.mem_cons.mp hy with e | e
      · exact List.mem_cons.mpr (.inl e)
      · exact List.mem_cons_of_mem _ (ih.1 y e), List.mem_cons_of_mem _ ih.2.1, List.mem_cons_of_mem _ ih.2.2⟩
theorem run_mem {p q : List Int} {cs : List (Int × Int)} (h : Run p cs q) : (∀ x ∈ q, x ∈ p) ∧ ∀ c ∈ cs, c.1 ∈ p ∧ c.2 ∈ p := by
  induction h with
  | nil p => exact ⟨fun _ h => h, fun _ z => (List.not_mem_nil z).elim⟩
  | cons s _ ih =>
    obtain ⟨a, b, c⟩ := step_mem s
    refine ⟨fun x hx => a x (ih.1 x hx), fun y hy => ?_⟩
    rcases List.mem_cons.mp hy with e | e
    · rw [e]; exact ⟨b, c⟩
    · exact ⟨a _ (ih.2 y e).1, a _ (ih.2 y e).2⟩
theorem cn_len {ns : List Int} {ds : List (Int × Int)} {rs : List Int} (h : Cn ns ds rs) : 2 * ds.length + rs.length ≤ ns.length := by
  obtain ⟨cs, run, p⟩ := h.ex
  have h1 := run.len
  have h2 := tp_len ns
  have h3 := p.length_eq
  omega
theorem cn_zz {ns : List Int} {ds : List (Int × Int)} {rs : List Int} (h : Cn ns ds rs) : ZZ rs := by
  obtain ⟨cs, run, p⟩ := h.ex
  exact run.zz (tp_zz ns)
theorem len_app (x y : Str) : (x ++ y).length = x.length + y.length := WN.len_app x y
theorem fr_tri (L : List Tri) : fr (L.map (·.2)) = rss L := by unfold fr rss; rw [List.map_map]; rfl
theorem fc_tri (L : List Tri) : fc (L.map (·.2)) = cys L := by unfold fc cys; rw [List.map_map]; rfl
theorem tri_len : ∀ (L : List Tri), (∀ t ∈ L, Cn t.1 t.2.1 t.2.2) → (rss L).length ≤ (lds L).length ∧ (cys L).length ≤ (lds L).length
  | [], _ => ⟨Nat.le_refl _, Nat.le_refl _⟩
  | t :: L, h => by
    obtain ⟨h1, h2⟩ := tri_len L fun x hx => h x (List.mem_cons_of_mem _ hx)
    have h3 := cn_len (h t List.mem_cons_self)
    unfold rss lds cys at *
    simp only [List.map_cons, List.flatten_cons, List.length_append]
    omega
/-- joined counts are the count of the joined loads -/
theorem cn_join {L : List Tri} (h : ∀ t ∈ L, Cn t.1 t.2.1 t.2.2) {ds cs : List (Int × Int)} {rs : List Int} (run : Run (tp (fr (L.map (·.2)))) cs rs) (nf : NF rs) (perm : ds.Perm (fc (L.map (·.2)) ++ cs)) (srt : ds.Pairwise Le) : Cn (lds L) ds rs := by
  obtain ⟨c0, p0, r0⟩ := joinedN L fun t ht => by
    obtain ⟨cs, r, p⟩ := (h t ht).ex
    exact ⟨cs, p.symm, r⟩
  rw [fr_tri] at run
  rw [fc_tri] at perm
  exact ⟨⟨c0 ++ cs, Run.append r0 run, perm.trans (p0.symm.append_right cs)⟩, nf, srt⟩
/-- two counts joined -/
theorem join2 {A B : List Int} {da db ds cs : List (Int × Int)} {ra rb rs : List Int} (hA : Cn A da ra) (hB : Cn B db rb) (run : Run (tp (fr [(da, ra), (db, rb)])) cs rs) (nf : NF rs) (perm : ds.Perm (fc [(da, ra), (db, rb)] ++ cs)) (srt : ds.Pairwise Le) : Cn (A ++ B) ds rs := by
  have := cn_join (L := [(A, da, ra), (B, db, rb)]) (fun t ht => by
    simp only [List.mem_cons, List.not_mem_nil, or_false] at ht
    rcases ht with rfl | rfl
    · exact hA
    · exact hB) run nf perm srt
  have e : lds [(A, da, ra), (B, db, rb)] = A ++ B := by unfold lds; simp
  rw [e] at this
  exact this
theorem len2 {A B : List Int} {da db : List (Int × Int)} {ra rb : List Int} (hA : Cn A da ra) (hB : Cn B db rb) : (fr [(da, ra), (db, rb)]).length ≤ A.length + B.length ∧ (fc [(da, ra), (db, rb)]).length ≤ A.length + B.length := by
  have h1 := cn_len hA
  have h2 := cn_len hB
  unfold fr fc
  simp only [List.map_cons, List.map_nil, List.flatten_cons, List.flatten_nil, List.length_append, List.length_nil]
  omega
theorem cn_ok {ns : List Int} {ds : List (Int × Int)} {rs : List Int} (h : Cn ns ds rs) (hb : ∀ n ∈ ns, n.natAbs ≤ 1000000000) : CntOk ds rs := by
  obtain ⟨cs, run, p⟩ := h.ex
  obtain ⟨m1, m2⟩ := run_mem run
  obtain ⟨i1, _⟩ := K31.run_in run (tp_zz ns)
  refine ⟨fun c hc => ?_, fun n hn => hb n (tp_mem (m1 n hn)), h.srt, ?_, ?_⟩
  · have hc2 := p.mem_iff.mp hc
    exact ⟨(i1 c hc2).1, hb _ (tp_mem (m2 c hc2).1), hb _ (tp_mem (m2 c hc2).2)⟩
  · unfold leftB
    rw [decide_eq_true (zz_tp (cn_zz h)), plc_of_nf h.nf]
    rfl
  · unfold inB
    refine List.all_eq_true.mpr fun c hc => ?_
    obtain ⟨_, ⟨x, hx, hx2⟩, ⟨y, hy, hy2⟩⟩ := i1 c (p.mem_iff.mp hc)
    rw [Bool.and_eq_true]
    exact ⟨List.any_eq_true.mpr ⟨x, hx, decide_eq_true hx2⟩, List.any_eq_true.mpr ⟨y, hy, decide_eq_true hy2⟩⟩
theorem txC_cw (r : Int × Int) : WN.txC r = NZ.cw r := by
  unfold WN.txC NZ.cw
  refine TL.ext_tl ?_
  rw [TL.tl_append, TL.tl_append, TL.tl_append, TL.tl_append, TL.tl_append]
  rfl
theorem txt_eq (ds : List (Int × Int)) (rs : List Int) : WN.txt ds rs = NZ.txt ds rs := by
  unfold WN.txt NZ.txt WN.rowC NZ.rowC WN.rowP NZ.rowP
  rw [List.map_congr_left (fun r _ => txC_cw r)]
  rfl
theorem ok_small {cs : List (Int × Int)} {rs : List Int} (h : CntOk cs rs) (l1 : cs.length ≤ 21000) (l2 : rs.length ≤ 21000) : WN.Small cs rs :=
  ⟨l1, l2, fun c hc => ⟨Nat.lt_of_le_of_lt (h.ok c hc).2.1 (by decide), Nat.lt_of_le_of_lt (h.ok c hc).2.2 (by decide)⟩, fun n hn => Nat.lt_of_le_of_lt (h.sm n hn) (by decide)⟩
/-- what is told of a text: the text, or the row of the error -/
noncomputable def tld (x : Str) : V := match pcn x with
  | .inl j => .int (j : Int)
  | .inr _ => .str x
theorem tld_bad {x : Str} {j : Nat} (h : pcn x = .inl j) : tld x = .int (j : Int) := by unfold tld; rw [h]
theorem tld_ok {x : Str} {c : List (Int × Int) × List Int} (h : pcn x = .inr c) : tld x = .str x := by unfold tld; rw [h]
theorem pcn_len {x : Str} {cs : List (Int × Int)} {rs : List Int} (h : pcn x = .inr (cs, rs)) (hl : x.length ≤ 20000) : cs.length ≤ 20001 ∧ rs.length ≤ 20001 := by
  obtain ⟨e, g⟩ := pcn_back h
  have lp := NY.split_part NX.nlk NZ.nlkk x
  have e2 : Txt.split x "\n" = [NZ.rowC cs, NZ.rowP rs] := by rw [e]; exact NZ.split_txt cs rs
  rw [e2] at lp
  have h1 := lp _ List.mem_cons_self
  have h2 := lp _ (List.mem_cons_of_mem _ List.mem_cons_self)
  have h3 := cyr_len (NZ.rowC cs)
  have h4 := rsr_len (NZ.rowP rs)
  rw [NZ.cyr_of g.ok, List.length_map] at h3
  rw [NZ.rsr_of g.sm, List.length_map] at h4
  omega
theorem one_out {cs : List (Int × Int)} {ns : List Int} {c : Int × Int} (h : c ∈ cs) (hc : c.1 < c.2) (hn : ns.length < 2) : inB cs ns = false := by
  refine Bool.eq_false_iff.mpr fun z => ?_
  have := List.all_eq_true.mp z c h
  rw [Bool.and_eq_true] at this
  obtain ⟨x, hx, hx2⟩ := List.any_eq_true.mp this.1
  obtain ⟨y, hy, hy2⟩ := List.any_eq_true.mp this.2
  have := of_decide_eq_true hx2
  have := of_decide_eq_true hy2
  match ns, hn with
  | [], _ => cases hx
  | [r], _ =>
    have := List.mem_singleton.mp hx
    have := List.mem_singleton.mp hy
    omega
theorem pairs_mp {H H' : Hp} (e : ∀ p (a b : Int), H p = some (.tup [.int a, .int b]) → H' p = some (.tup [.int a, .int b])) : ∀ {xs : List V} {rs : List (Int × Int)}, PairsAt H xs rs → PairsAt H' xs rs
  | [], [], _ => trivial
  | x :: xs, r :: rs, ⟨⟨p, h1, h2⟩, h3⟩ => ⟨⟨p, h1, e p _ _ h2⟩, pairs_mp e h3⟩
  | [], _ :: _, h => h.elim
  | _ :: _, [], h => h.elim
theorem pairs_put {D : Addr} {H : Hp} {l l2 : List V} (e : H D = some (.lst l)) {xs : List V} {rs : List (Int × Int)} (h : PairsAt H xs rs) : PairsAt (upd H D (.lst l2)) xs rs :=
  pairs_mp (fun p a b e2 => by rw [upd_ne (fun z => by rw [z, e] at e2; cases e2)]; exact e2) h
theorem sat2 {H : Hp} {C x : Addr} {ds : List (Int × Int)} {rs : List Int} (h : CountAt H C x ds rs) : ∃ dx t1 t2, H x = some (.ins C dx [("_cycles", .ref t1), ("_rest", .ref t2)]) := by
  obtain ⟨dx, t1, t2, ys, h1, _⟩ := h
  exact ⟨dx, t1, t2, h1⟩
theorem ev_prt (as bs : List (Int × Int)) : PyData.eqv (.tuple (dPairs as)) (.tuple (dPairs bs)) = decide (as = bs) := by
  rw [← QL.ev_pairs]; simp [PyData.eqv]
theorem ev_tupi (as bs : List Int) : PyData.eqv (.tuple (dInts as)) (.tuple (dInts bs)) = decide (as = bs) := by
  rw [← Y7X.ev_ints]; simp [PyData.eqv]
section
variable {P : Program} {w : World} {K : PySem.W.Frag} {mg : Str → Option Value} {base : Heap}
def spLN : Sp := fun vs H Q _ => ∃ x : Str, vs = [.str x] ∧ x.length ≤ 20000 ∧ Asc x ∧ ∀ H', Same H H' → Q (optV (rdw x)) H'
theorem ok_LN {f : Addr} {fd : FuncData} {k : Nat} (F : Fun K "_law_number" "_law_number" sLN f fd) (ml : mg "len" = none) (mi : mg "int" = none) (mst : mg "str" = none) (ma : mg "abs" = none) : FnOk P w K mg base CX0 (k + 1) f fd ["word"] spLN := by
  refine F.ok scLN (fun vs H Q E h => ?_) (fun cdv A outer s H vs Q E hr h => ?_)
  · obtain ⟨x, rfl, _⟩ := h
    rfl
  · obtain ⟨x, rfl, hl, hasc, hq⟩ := h
    refine ⟨_, (pss_cons (ps_set (i := 1) scLN.nd rfl (.inl rfl) (pe_ifExp (pt_cmpR op_eq (pe_slice sl_str (pv 0) po_none (po_some pe_int)) pe_str (nomark _)) (pe_slice sl_str (pv 0) (po_some pe_int) po_none) (pv 0)))
      (pss_cons (ps_if (PW.pt (pw_or (pt_not (pt_chain op_le op_le pe_int (pe_callB call_len_str (by rfl) ml PySem.boot_len (pa_cons (pv 1) pa_nil)) pe_int)) (pw_or1 (pt_cmpR (op_neD hr.units) (pe_lc (own := [("sign", 2)]) (g := gName 2) (tt := ttS) (te := tVar 2) rfl scLN.nd (pi_str (pv 1)) (blkOk_by (own := [("sign", 2)]) (N := ["word", "digits", "sign"]) (sc := defScope sLN) (by decide +kernel)) (fun _ _ _ _ _ => (pg_name (i := 2) scLN.nd rfl (Or.inl rfl) (Or.inr rfl))) (fun _ _ _ _ _ => pts_one (pt_cmpR op_notIn_sign (pv 2) pe_str (by rfl))) (fun _ _ _ _ _ => (pv 2))) (pe_lst pa_nil) (nomark _))))) (pss_one (ps_ret pe_non)) pss_nil)
      (pss_one (ps_ret (pe_ifExp (PW.pt (pw_and (pt_cmpR op_eq (pe_callTy call_str_int (by rfl) mst (by decide +kernel) (pa_cons (pe_callTy call_int_str (by rfl) mi (by decide +kernel) (pa_cons (pv 0) pa_nil)) pa_nil)) (pv 0) (nomark _)) (pw_and1 (pt_cmpR op_le (pe_callB call_abs (by rfl) ma (by decide +kernel) (pa_cons (pe_callTy call_int_str (by rfl) mi (by decide +kernel) (pa_cons (pv 0) pa_nil)) pa_nil)) (pe_op op_pow pe_int pe_int) (nomark _))))) (pe_callTy call_int_str (by rfl) mi (by decide +kernel) (pa_cons (pv 0) pa_nil)) pe_non))))), ?_⟩
    have hz : x.length ≤ sizeLine := Nat.le_trans hl (by decide)
    have no : (∀ n, rdw x = some n → False) → ∀ H', Same H H' → Q .non H' := fun h H' s => by
      have hq := hq H' s
      cases k : rdw x with
      | none => rw [k] at hq; exact hq
      | some n => exact (h n k).elim
    refine ⟨.str x, rfl, 1, rfl, x, rfl, hz, rfl, _, rfl, ?_⟩
    have hc1 := cut1 x
    have hcf := cutf x
    by_cases hm : ∃ l, TL.tl x = 45 :: l
    · obtain ⟨l, hl0⟩ := hm
      rw [decide_eq_true (show V.str (cutS x none (some 1)) = V.str "-" from congrArg V.str (TL.ext_tl (by rw [show (some (1 : Int)) = some ((1 : Nat) : Int) from rfl, hc1, hl0, NX.mi]; rfl)))]
      refine iteT ⟨.str x, rfl, 1, rfl, x, rfl, hz, ?_⟩
      obtain ⟨d, ed⟩ : ∃ d, d = cutS x (some 1) none := ⟨_, rfl⟩
      rw [← ed]
      have hd : d = Txt.removeprefix x "-" := dig_tl (.inl ⟨l, hl0, by rw [ed]; rw [show (some (1 : Int)) = some ((1 : Nat) : Int) from rfl, hcf, hl0]; rfl⟩)
      have dl : d.length ≤ x.length := by rw [hd]; exact rp_len.2
      refine ⟨.str d, rfl, d, rfl, Nat.le_trans dl hz, 1, _, rfl, rfl, _, rfl, ?_⟩
      by_cases h1 : (1 : Int) ≤ (d.length : Int)
      rotate_left
      · rw [decide_eq_false h1]
        exact iteF ⟨_, rfl, iteT (no (fun n hn => h1 (by have := (rdw_dig hn).1; rw [← hd] at this; omega)) _ (Same.refl H))⟩
      rw [decide_eq_true h1]
      refine iteT ⟨_, 10, rfl, rfl, _, rfl, ?_⟩
      by_cases h2 : (d.length : Int) ≤ 10
      rotate_left
      · rw [decide_eq_false h2]
        exact iteT (no (fun n hn => h2 (by have := (rdw_dig hn).2.1; rw [← hd] at this; omega)) _ (Same.refl H))
      rw [decide_eq_true h2]
      refine iteF ⟨.str d, rfl, d, rfl, fun D nD => ?_⟩
      refine lc_it (walk_str (z := d)) (fun i Hz => Same H Hz ∧ Hz D = some (.lst ((odds ((TL.tl d).take i)).map sgn))) ⟨same_new nD, upd_same⟩ (fun _ _ _ _ => trivial) ?_ ?_
      · rintro i v Hz Hy hi ⟨sz, eD⟩ ⟨rfl, c, hc, rfl⟩
        have hc2 : (TL.tl d)[i]? = some c := by rw [Array.getElem?_toList]; exact hc
        have lo : (odds ((TL.tl d).take i)).length ≤ 10 := by
          have a1 : (odds ((TL.tl d).take i)).length ≤ ((TL.tl d).take i).length := List.length_filter_le _ _
          have a2 := TL.len_tl d
          rw [List.length_take] at a1
          omega
        have st : odds ((TL.tl d).take (i + 1)) = odds ((TL.tl d).take i) ++ odds [c] := by
          unfold odds
          rw [List.take_add_one, hc2, Option.toList_some, List.filter_append]
        refine ⟨rfl, .str ⟨#[c]⟩, rfl, c, "0123456789", rfl, rfl, _, rfl, ?_⟩
        rw [in_digs]
        cases k : (decide (48 ≤ c) && decide (c ≤ 57)) with
        | true =>
          refine iteF ⟨sz, ?_⟩
          have e : odds [c] = [] := by unfold odds; simp [List.filter, k]
          rw [st, e, List.append_nil]
          exact eD
        | false =>
          refine iteT ⟨.str ⟨#[c]⟩, rfl, _, eD, ?_, same_again nD sz, ?_⟩
          · rw [List.length_map]; exact Nat.lt_of_le_of_lt lo (by decide)
          · have e : odds [c] = [c] := by unfold odds; simp [List.filter, k]
            rw [upd_same, st, e, List.map_append]
            rfl
      rintro H1 ⟨s1, eD⟩
      rw [List.take_of_length_le (show (TL.tl d).length ≤ d.cps.size by rw [← TL.len_tl]; exact Nat.le_refl _)] at eD
      refine ⟨Nat.zero_le _, fun z nz => ?_⟩
      have sz := same_new (o := .lst []) nz
      have hsh : ∀ c ∈ odds (TL.tl d), c < 128 := fun c hc => by
        have := (List.mem_filter.mp hc).1
        rw [hd] at this
        exact hasc c (rp_sub this)
      refine ⟨.list (dSg (odds (TL.tl d))), .list [], .lst (SqL.of (sz _ _ eD)) (dp_sg _), .lst (SqL.of upd_same) .nil, shaped_sg _ hsh, shaped_lst [], _, rfl, ?_⟩
      rw [ev_sg]
      have s2 := s1.trans sz
      generalize upd H1 z (.lst []) = H2 at s2 ⊢
      by_cases ho : odds (TL.tl d) = []
      rotate_left
      · rw [decide_eq_false ho]
        exact iteT (no (fun n hn => ho (odds_nil.mpr (by rw [hd]; exact (rdw_dig hn).2.2))) _ s2)
      rw [decide_eq_true ho]
      have ad := odds_nil.mp ho
      rw [hd] at ad
      have hx11 := (rp_len (x := x)).1
      rw [← hd] at hx11
      obtain ⟨n, hn, hb⟩ := read_dig ad (fun z => by rw [← hd] at z; have a := TL.len_tl d; rw [z] at a; have e0 : ([] : List Nat).length = 0 := rfl; omega) (by rw [← hd]; omega) (by omega)
      refine iteF ⟨.str x, rfl, x, n, rfl, hn, by omega, n, rfl, WN.ti_log hb, .str x, rfl, rfl, _, rfl, ?_⟩
      by_cases e : tI n = x
      rotate_left
      · rw [decide_eq_false (show ¬ V.str (Str.ofString (toString n)) = V.str x from fun z => e (V.str.inj z))]
        refine iteF (no (fun k hk => ?_) _ s2)
        obtain ⟨a1, a2⟩ := NY.rdw_back hk
        have := NX.read_int a2
        rw [← a1, hn] at this
        exact e (by rw [Option.some.inj this]; exact a1.symm)
      · rw [decide_eq_true (show V.str (Str.ofString (toString n)) = V.str x from congrArg V.str e)]
        refine iteT ⟨.str x, rfl, x, n, rfl, hn, by omega, n, rfl, 10, 9, rfl, rfl, ⟨by decide, by decide, by decide⟩, _, _, rfl, rfl, _, rfl, ?_⟩
        by_cases b : n.natAbs ≤ 1000000000
        · have b2 : (if n < 0 then -n else n) ≤ (10 : Int) ^ (9 : Int).toNat := by
            have e9 : (10 : Int) ^ (9 : Int).toNat = 1000000000 := by decide
            rw [e9]
            split <;> omega
          rw [decide_eq_true b2]
          refine iteT ⟨.str x, rfl, x, n, rfl, hn, by omega, ?_⟩
          have hq := hq _ s2
          rw [show rdw x = some n by rw [← e]; exact NX.rdw_int b] at hq
          exact hq
        · have b2 : ¬ (if n < 0 then -n else n) ≤ (10 : Int) ^ (9 : Int).toNat := by
            have e9 : (10 : Int) ^ (9 : Int).toNat = 1000000000 := by decide
            rw [e9]
            split <;> omega
          rw [decide_eq_false b2]
          refine iteF (no (fun k hk => ?_) _ s2)
          obtain ⟨a1, a2⟩ := NY.rdw_back hk
          have := NX.read_int a2
          rw [← a1, hn] at this
          exact b (by rw [Option.some.inj this]; exact a2)
    · rw [decide_eq_false (show ¬ V.str (cutS x none (some 1)) = V.str "-" from fun z => hm (by
        have z2 := congrArg TL.tl (V.str.inj z)
        rw [show (some (1 : Int)) = some ((1 : Nat) : Int) from rfl, hc1, NX.mi] at z2
        cases k : TL.tl x with
        | nil => rw [k] at z2; cases z2
        | cons c l => rw [k] at z2; exact ⟨l, by rw [show c = 45 from (List.cons.inj z2).1]⟩))]
      refine iteF ⟨.str x, rfl, ?_⟩
      have hd : x = Txt.removeprefix x "-" := dig_tl (.inr ⟨fun l z => hm ⟨l, z⟩, rfl⟩)
      have dl : x.length ≤ x.length := Nat.le_refl _
      refine ⟨.str x, rfl, x, rfl, Nat.le_trans dl hz, 1, _, rfl, rfl, _, rfl, ?_⟩
      by_cases h1 : (1 : Int) ≤ (x.length : Int)
      rotate_left
      · rw [decide_eq_false h1]
        exact iteF ⟨_, rfl, iteT (no (fun n hn => h1 (by have := (rdw_dig hn).1; rw [← hd] at this; omega)) _ (Same.refl H))⟩
      rw [decide_eq_true h1]
      refine iteT ⟨_, 10, rfl, rfl, _, rfl, ?_⟩
      by_cases h2 : (x.length : Int) ≤ 10
      rotate_left
      · rw [decide_eq_false h2]
        exact iteT (no (fun n hn => h2 (by have := (rdw_dig hn).2.1; rw [← hd] at this; omega)) _ (Same.refl H))
      rw [decide_eq_true h2]
      refine iteF ⟨.str x, rfl, x, rfl, fun D nD => ?_⟩
      refine lc_it (walk_str (z := x)) (fun i Hz => Same H Hz ∧ Hz D = some (.lst ((odds ((TL.tl x).take i)).map sgn))) ⟨same_new nD, upd_same⟩ (fun _ _ _ _ => trivial) ?_ ?_
      · rintro i v Hz Hy hi ⟨sz, eD⟩ ⟨rfl, c, hc, rfl⟩
        have hc2 : (TL.tl x)[i]? = some c := by rw [Array.getElem?_toList]; exact hc
        have lo : (odds ((TL.tl x).take i)).length ≤ 10 := by
          have a1 : (odds ((TL.tl x).take i)).length ≤ ((TL.tl x).take i).length := List.length_filter_le _ _
          have a2 := TL.len_tl x
          rw [List.length_take] at a1
          omega
        have st : odds ((TL.tl x).take (i + 1)) = odds ((TL.tl x).take i) ++ odds [c] := by
          unfold odds
          rw [List.take_add_one, hc2, Option.toList_some, List.filter_append]
        refine ⟨rfl, .str ⟨#[c]⟩, rfl, c, "0123456789", rfl, rfl, _, rfl, ?_⟩
        rw [in_digs]
        cases k : (decide (48 ≤ c) && decide (c ≤ 57)) with
        | true =>
          refine iteF ⟨sz, ?_⟩
          have e : odds [c] = [] := by unfold odds; simp [List.filter, k]
          rw [st, e, List.append_nil]
          exact eD
        | false =>
          refine iteT ⟨.str ⟨#[c]⟩, rfl, _, eD, ?_, same_again nD sz, ?_⟩
          · rw [List.length_map]; exact Nat.lt_of_le_of_lt lo (by decide)
          · have e : odds [c] = [c] := by unfold odds; simp [List.filter, k]
            rw [upd_same, st, e, List.map_append]
            rfl
      rintro H1 ⟨s1, eD⟩
      rw [List.take_of_length_le (show (TL.tl x).length ≤ x.cps.size by rw [← TL.len_tl]; exact Nat.le_refl _)] at eD
      refine ⟨Nat.zero_le _, fun z nz => ?_⟩
      have sz := same_new (o := .lst []) nz
      have hsh : ∀ c ∈ odds (TL.tl x), c < 128 := fun c hc => by
        have := (List.mem_filter.mp hc).1
        rw [hd] at this
        exact hasc c (rp_sub this)
      refine ⟨.list (dSg (odds (TL.tl x))), .list [], .lst (SqL.of (sz _ _ eD)) (dp_sg _), .lst (SqL.of upd_same) .nil, shaped_sg _ hsh, shaped_lst [], _, rfl, ?_⟩
      rw [ev_sg]
      have s2 := s1.trans sz
      generalize upd H1 z (.lst []) = H2 at s2 ⊢
      by_cases ho : odds (TL.tl x) = []
      rotate_left
      · rw [decide_eq_false ho]
        exact iteT (no (fun n hn => ho (odds_nil.mpr (by rw [hd]; exact (rdw_dig hn).2.2))) _ s2)
      rw [decide_eq_true ho]
      have ad := odds_nil.mp ho
      rw [hd] at ad
      have hx11 := (rp_len (x := x)).1
      rw [← hd] at hx11
      obtain ⟨n, hn, hb⟩ := read_dig ad (fun z => by rw [← hd] at z; have a := TL.len_tl x; rw [z] at a; have e0 : ([] : List Nat).length = 0 := rfl; omega) (by rw [← hd]; omega) (by omega)
      refine iteF ⟨.str x, rfl, x, n, rfl, hn, by omega, n, rfl, WN.ti_log hb, .str x, rfl, rfl, _, rfl, ?_⟩
      by_cases e : tI n = x
      rotate_left
      · rw [decide_eq_false (show ¬ V.str (Str.ofString (toString n)) = V.str x from fun z => e (V.str.inj z))]
        refine iteF (no (fun k hk => ?_) _ s2)
        obtain ⟨a1, a2⟩ := NY.rdw_back hk
        have := NX.read_int a2
        rw [← a1, hn] at this
        exact e (by rw [Option.some.inj this]; exact a1.symm)
      · rw [decide_eq_true (show V.str (Str.ofString (toString n)) = V.str x from congrArg V.str e)]
        refine iteT ⟨.str x, rfl, x, n, rfl, hn, by omega, n, rfl, 10, 9, rfl, rfl, ⟨by decide, by decide, by decide⟩, _, _, rfl, rfl, _, rfl, ?_⟩
        by_cases b : n.natAbs ≤ 1000000000
        · have b2 : (if n < 0 then -n else n) ≤ (10 : Int) ^ (9 : Int).toNat := by
            have e9 : (10 : Int) ^ (9 : Int).toNat = 1000000000 := by decide
            rw [e9]
            split <;> omega
          rw [decide_eq_true b2]
          refine iteT ⟨.str x, rfl, x, n, rfl, hn, by omega, ?_⟩
          have hq := hq _ s2
          rw [show rdw x = some n by rw [← e]; exact NX.rdw_int b] at hq
          exact hq
        · have b2 : ¬ (if n < 0 then -n else n) ≤ (10 : Int) ^ (9 : Int).toNat := by
            have e9 : (10 : Int) ^ (9 : Int).toNat = 1000000000 := by decide
            rw [e9]
            split <;> omega
          rw [decide_eq_false b2]
          refine iteF (no (fun k hk => ?_) _ s2)
          obtain ⟨a1, a2⟩ := NY.rdw_back hk
          have := NX.read_int a2
          rw [← a1, hn] at this
          exact b (by rw [Option.some.inj this]; exact a2)
def spLC : Sp := fun vs H Q _ => ∃ x : Str, vs = [.str x] ∧ x.length ≤ 20000 ∧ Asc x ∧ (okC x = none → ∀ H', Same H H' → Q .non H') ∧ (∀ cs, okC x = some cs → ∀ H' p xs, Same H H' → H' p = some (.lst xs) → PairsAt H' xs cs → Q (.ref p) H')
theorem ok_LC {f : Addr} {fd : FuncData} {fLN : Addr} {dLN : FuncData} {k : Nat} (F : Fun K "_law_cycles" "_law_cycles" sLC f fd) (GLN : FnOk P w K mg base CX0 (k + 1) fLN dLN ["word"] spLN) (gLN : mg "_law_number" = some (.ref fLN)) (kLN : PySem.W.keepIn K (.ref fLN) = true) (bLN : Binds K dLN ["word"] []) (mlen : mg "len" = none) (mtu : mg "tuple" = none) (mso : mg "sorted" = none) : FnOk P w K mg base CX0 (k + 2) f fd ["row"] spLC := by
  refine F.ok scLC (fun vs H Q E h => ?_) (fun cdv A outer s H vs Q E hr h => ?_)
  · obtain ⟨x, rfl, _⟩ := h
    rfl
  · obtain ⟨x, rfl, hl, hasc, hn, hs⟩ := h
    refine ⟨_, (pss_cons (ps_set (i := 1) scLC.nd rfl (.inl rfl) (pe_lst pa_nil))
      (pss_cons (ps_for PassesOwn.never rfl (pi_list (pe_ifExp (pt_cmpR op_ne (pv 0) pe_str (nomark _)) (pe_split (pv 0) pe_str) (pe_lst pa_nil))) (pg_name (i := 2) scLC.nd rfl (.inl rfl))
      (pss_cons (ps_setLc (i := 3) (own := [("part", 4)]) (g := gName 4) (tt := tYes) (te := tCall spLN [] E0 (tCons (tVar 4) tNil)) rfl scLC.nd rfl rfl (sw_true rfl rfl rfl (by decide +kernel)) (pi_list (pe_split (pv 2) pe_str)) (blkOk_by (own := [("part", 4)]) (N := ["row", "found", "word", "numbers", "part"]) (sc := defScope sLC) (by decide +kernel)) (fun _ _ _ _ _ => (pg_name (i := 4) scLC.nd rfl (Or.inl rfl) (Or.inr rfl))) (fun _ _ _ _ _ => pts_nil) (fun _ _ _ _ _ => (pe_call GLN hr (by rfl) gLN kLN bLN .nil pass0 (pa_cons (pv 4) pa_nil))))
      (pss_cons (ps_if (PW.pt (pw_or (pt_cmpR op_ne (pe_callB call_len_seq (by rfl) mlen PySem.boot_len (pa_cons (pv 3) pa_nil)) pe_int (nomark _)) (pw_or (pt_cmpR op_in_seq pe_non (pv 3) (by rfl)) (pw_or1 (pt_cmpR op_ge (pe_ix ix_list (pv 3) pe_int (fun _ _ => rfl)) (pe_ix ix_list (pv 3) pe_int (fun _ _ => rfl)) (nomark _)))))) (pss_one (ps_ret pe_non)) pss_nil)
      (pss_one (ps_expr (pe_bm PySem.F.plainAttrs_list PySem.F.slot_list_append PySem.F.type_list_append mt_append (pv 1) (pa_cons (pe_callTy call_tuple_of (by rfl) mtu (by decide +kernel) (pa_cons (pv 3) pa_nil)) pa_nil)))))))
      (pss_one (ps_ret (pe_ifExp (pt_cmpR (op_eqD hr.units) (pv 1) (pe_callB cr_sortedPO (by rfl) mso (by decide +kernel) (pa_cons (pv 1) pa_nil)) (nomark _)) (pv 1) pe_non))))), ?_⟩
    refine ⟨Nat.zero_le _, fun F0 nF => ?_⟩
    have sF := same_new (o := .lst []) nF
    have eF := upd_same (H := H) (a := F0) (o := .lst [])
    generalize upd H F0 (.lst []) = HF at sF eF ⊢
    obtain ⟨ws, hw⟩ : ∃ ws : List Str, ws = if x = "none" then [] else Txt.split x " " := ⟨_, rfl⟩
    have he : cyr x = ws.map cyw := by unfold NZ.cyr; rw [hw]; split <;> rfl
    have lc : ws.length ≤ 20001 := by
      rw [hw]
      split
      · exact Nat.zero_le _
      · have := NY.split_count NX.blk NZ.blkk x; omega
    have lp : ∀ p ∈ ws, p.length ≤ x.length ∧ Asc p := fun p hp => by
      rw [hw] at hp
      split at hp
      · exact absurd hp (by simp)
      · exact ⟨NY.split_part NX.blk NZ.blkk x p hp, split_asc NX.blk NZ.blkk hasc p hp⟩
    refine ⟨.str x, rfl, rfl, _, rfl, ?_⟩
    by_cases hx : x = "none"
    · rw [decide_eq_true (show V.str x = V.str "none" from congrArg V.str hx)]
      rw [if_pos hx] at hw
      refine iteF ⟨Nat.zero_le _, fun S nS => ?_⟩
      have sS := same_new (o := .lst []) nS
      have eS : (upd HF S (.lst [])) S = some (.lst (ws.map V.str)) := by rw [hw]; exact upd_same
      have nFS : F0 ≠ S := fun z => by rw [← z, eF] at nS; cases nS
      generalize upd HF S (.lst []) = H0 at sS eS ⊢
      refine ⟨S, rfl, ⟨_, SqL.of eS⟩, for_list (K := K) (a := S) (xs := ws.map V.str) (fun i σ Hz => Same H Hz ∧ Hz S = some (.lst (ws.map V.str)) ∧ ∃ (acc : List V) (cs : List (Int × Int)), Hz F0 = some (.lst acc) ∧ PairsAt Hz acc cs ∧ (ws.take i).map cyw = cs.map some ∧ ∃ r2 r3 r4 : Option V, σ = [some (.str x), some (.ref F0), r2, r3, r4]) ⟨sF.trans sS, eS, [], [], sS _ _ eF, trivial, rfl, _, _, _, rfl⟩ (fun _ _ _ _ z => SqL.of z.2.1) ?_ ?_⟩
      · rintro i y σ Hz hy ⟨sz, eSz, acc, cs, eFz, pa, hcs, r2, r3, r4, rfl⟩
        obtain ⟨u, hu, rfl⟩ := strs_at hy
        have mu := List.mem_of_getElem? hu
        obtain ⟨lu, au⟩ := lp u mu
        have lw := NY.split_count NZ.col NZ.colk u
        have lq := NY.split_part NZ.col NZ.colk u
        have aw := split_asc NZ.col NZ.colk au
        have ec := NZ.cyw_cys u
        refine ⟨.str u, rfl, ⟨_, rfl⟩, u, ":", rfl, rfl, by decide +kernel, Nat.le_trans (Nat.add_le_add_right (Nat.le_trans lu hl) 2) (by decide), fun W nW => ?_⟩
        generalize Txt.split u ":" = ps at ec lw lq aw ⊢
        have sW := same_new (o := .lst (ps.map V.str)) nW
        have eW := upd_same (H := Hz) (a := W) (o := .lst (ps.map V.str))
        generalize upd Hz W (.lst (ps.map V.str)) = H2 at sW eW ⊢
        refine ⟨W, rfl, ⟨_, SqL.of eW⟩, fun D nD => ?_⟩
        refine lc_list (K := K) (a := W) (xs := ps.map V.str) (fun j Hw => Same H2 Hw ∧ Hw D = some (.lst (((ps.take j).map rdw).map optV))) ⟨same_new nD, upd_same⟩ (fun j Hw _ z => SqL.of (z.1 _ _ eW)) ?_ ?_
        · rintro j y Hw hy ⟨sw, eD⟩
          obtain ⟨v, hv, rfl⟩ := strs_at hy
          have mv := List.mem_of_getElem? hv
          have lv := lq v mv
          refine ⟨rfl, iteT (B := True) ⟨.str v, rfl, v, rfl, by omega, aw v mv, fun H' s => ⟨_, s _ _ eD, ?_, same_again nD (sw.trans s), ?_⟩⟩⟩
          · rw [List.length_map, List.length_map, List.length_take]; exact Nat.lt_of_le_of_lt (show _ ≤ 30000 by omega) (by decide)
          · rw [upd_same, List.take_add_one, hv, List.map_append, List.map_append]; rfl
        rintro H3 ⟨s3, eD⟩
        rw [List.length_map, List.take_length] at eD
        have s23 := sW.trans s3
        have bad : NZ.cys (ps.map rdw) = none → Q .non H3 := fun h => hn (okC_none (NZ.allS_none.mp (by rw [he]; exact List.mem_map.mpr ⟨u, mu, by rw [ec]; exact h⟩))) H3 (sz.trans s23)
        have eF3 := s23 _ _ eFz
        generalize ps.map rdw = os at bad eD ec
        refine ⟨.ref D, rfl, D, _, rfl, .inl (SqL.of eD), rfl, _, rfl, ?_⟩
        have el : V.int ((os.map optV).length : Int) = V.int 2 ↔ os.length = 2 := by
          rw [List.length_map]
          constructor
          · intro z; have := V.int.inj z; omega
          · intro z; rw [z]; rfl
        by_cases l2 : os.length = 2
        rotate_left
        · rw [decide_eq_false fun z => l2 (el.mp z)]
          refine iteT (bad ?_)
          match os, l2 with
          | [], _ => rfl
          | [_], _ => rfl
          | [_, _], h => exact absurd rfl h
          | _ :: _ :: _ :: _, _ => rfl
        rw [decide_eq_true (el.mpr l2)]
        refine iteF ⟨.ref D, rfl, D, _, rfl, .inl (SqL.of eD), rfl, opt_flat _, _, rfl, ?_⟩
        rw [opt_in]
        match os, l2 with
        | [none, _], _ => exact iteT (bad rfl)
        | [some _, none], _ => exact iteT (bad rfl)
        | [some p, some q], _ =>
          refine iteF ⟨.ref D, rfl, D, _, 0, .int p, rfl, rfl, SqL.of eD, at_of (j := 0) rfl rfl, .ref D, rfl, D, _, 1, .int q, rfl, rfl, SqL.of eD, at_of (j := 1) rfl rfl, p, q, rfl, rfl, _, rfl, ?_⟩
          by_cases c1 : q ≤ p
          · rw [decide_eq_true c1]
            exact iteT (bad (if_neg (by omega)))
          rw [decide_eq_false c1]
          have ec2 : cyw u = some (p, q) := ec.trans (if_pos (by omega))
          have al : acc.length = i := by
            have h1 := pa.length
            have h2 := congrArg List.length hcs
            have h3 := (List.getElem?_eq_some_iff.mp hu).1
            rw [List.length_map, List.length_map, List.length_take] at h2
            omega
          have il := (List.getElem?_eq_some_iff.mp hu).1
          refine iteF ⟨.ref F0, rfl, .inl ⟨rfl, _, SqL.of eF3⟩, .ref D, rfl, D, _, rfl, .inl ⟨SqL.of eD, fun t nt => ?_⟩⟩
          have st := same_new (o := .tup (([some p, some q] : List (Option Int)).map optV)) nt
          have et : (upd H3 t (.tup (([some p, some q] : List (Option Int)).map optV))) t = some (.tup [.int p, .int q]) := upd_same
          generalize upd H3 t (.tup (([some p, some q] : List (Option Int)).map optV)) = H4 at st et ⊢
          have s34 := s23.trans st
          have eF4 := s34 _ _ eFz
          have eS4 := s34 _ _ eSz
          refine ⟨F0, acc, .ref t, rfl, rfl, eF4, Nat.lt_of_le_of_lt (show _ ≤ 22000 by omega) (by decide), same_again nF (sz.trans s34), by rw [upd_ne (Ne.symm nFS)]; exact eS4, acc ++ [.ref t], cs ++ [(p, q)], upd_same, ?_, ?_, _, _, _, rfl⟩
          · exact pairs_put eF4 ((pa.same s34).append ⟨⟨t, rfl, et⟩, trivial⟩)
          · rw [List.take_add_one, hu, List.map_append, hcs, List.map_append]; show _ ++ [cyw u] = _ ++ [some (p, q)]; rw [ec2]
      rintro σ H' ⟨sz, eSz, acc, cs, eFz, pa, hcs, r2, r3, r4, rfl⟩
      rw [List.length_map, List.take_length, ← he] at hcs
      have ea : allS (cyr x) = some cs := by rw [hcs]; exact NZ.allS_map cs
      refine ⟨.ref F0, rfl, .ref F0, rfl, F0, acc, kOf H', rfl, SqL.of eFz, (pairs_key pa).2, fun ys p h1 h2 np => ?_⟩
      obtain ⟨ds, pd, perm, srt⟩ := sorted_out pa h1 h2
      have sp := same_new (o := .lst ys) np
      refine ⟨.list (dPairs cs), .list (dPairs ds), .lst (SqL.of (sp _ _ eFz)) (dp_pairs (pa.same sp)), .lst (SqL.of upd_same) (dp_pairs (pd.same sp)), shaped_prs _, shaped_prs _, _, rfl, ?_⟩
      rw [ev_prs]
      by_cases c : cs = ds
      · rw [decide_eq_true c]
        exact iteT ⟨.ref F0, rfl, hs cs (okC_yes ea (by rw [c]; exact srt)) _ F0 acc (sz.trans sp) (sp _ _ eFz) (pa.same sp)⟩
      · rw [decide_eq_false c]
        exact iteF (hn (okC_no ea fun z => c (sorted_same perm.symm z srt)) _ (sz.trans sp))
    · rw [decide_eq_false (show ¬ V.str x = V.str "none" from fun z => hx (V.str.inj z))]
      rw [if_neg hx] at hw
      refine iteT ⟨.str x, rfl, ⟨_, rfl⟩, x, " ", rfl, rfl, by decide +kernel, Nat.le_trans (Nat.add_le_add_right hl 2) (by decide), fun S nS => ?_⟩
      rw [← hw]
      have sS := same_new (o := .lst (ws.map V.str)) nS
      have eS := upd_same (H := HF) (a := S) (o := .lst (ws.map V.str))
      have nFS : F0 ≠ S := fun z => by rw [← z, eF] at nS; cases nS
      generalize upd HF S (.lst (ws.map V.str)) = H0 at sS eS ⊢
      refine ⟨S, rfl, ⟨_, SqL.of eS⟩, for_list (K := K) (a := S) (xs := ws.map V.str) (fun i σ Hz => Same H Hz ∧ Hz S = some (.lst (ws.map V.str)) ∧ ∃ (acc : List V) (cs : List (Int × Int)), Hz F0 = some (.lst acc) ∧ PairsAt Hz acc cs ∧ (ws.take i).map cyw = cs.map some ∧ ∃ r2 r3 r4 : Option V, σ = [some (.str x), some (.ref F0), r2, r3, r4]) ⟨sF.trans sS, eS, [], [], sS _ _ eF, trivial, rfl, _, _, _, rfl⟩ (fun _ _ _ _ z => SqL.of z.2.1) ?_ ?_⟩
      · rintro i y σ Hz hy ⟨sz, eSz, acc, cs, eFz, pa, hcs, r2, r3, r4, rfl⟩
        obtain ⟨u, hu, rfl⟩ := strs_at hy
        have mu := List.mem_of_getElem? hu
        obtain ⟨lu, au⟩ := lp u mu
        have lw := NY.split_count NZ.col NZ.colk u
        have lq := NY.split_part NZ.col NZ.colk u
        have aw := split_asc NZ.col NZ.colk au
        have ec := NZ.cyw_cys u
        refine ⟨.str u, rfl, ⟨_, rfl⟩, u, ":", rfl, rfl, by decide +kernel, Nat.le_trans (Nat.add_le_add_right (Nat.le_trans lu hl) 2) (by decide), fun W nW => ?_⟩
        generalize Txt.split u ":" = ps at ec lw lq aw ⊢
        have sW := same_new (o := .lst (ps.map V.str)) nW
        have eW := upd_same (H := Hz) (a := W) (o := .lst (ps.map V.str))
        generalize upd Hz W (.lst (ps.map V.str)) = H2 at sW eW ⊢
        refine ⟨W, rfl, ⟨_, SqL.of eW⟩, fun D nD => ?_⟩
        refine lc_list (K := K) (a := W) (xs := ps.map V.str) (fun j Hw => Same H2 Hw ∧ Hw D = some (.lst (((ps.take j).map rdw).map optV))) ⟨same_new nD, upd_same⟩ (fun j Hw _ z => SqL.of (z.1 _ _ eW)) ?_ ?_
        · rintro j y Hw hy ⟨sw, eD⟩
          obtain ⟨v, hv, rfl⟩ := strs_at hy
          have mv := List.mem_of_getElem? hv
          have lv := lq v mv
          refine ⟨rfl, iteT (B := True) ⟨.str v, rfl, v, rfl, by omega, aw v mv, fun H' s => ⟨_, s _ _ eD, ?_, same_again nD (sw.trans s), ?_⟩⟩⟩
          · rw [List.length_map, List.length_map, List.length_take]; exact Nat.lt_of_le_of_lt (show _ ≤ 30000 by omega) (by decide)
          · rw [upd_same, List.take_add_one, hv, List.map_append, List.map_append]; rfl
        rintro H3 ⟨s3, eD⟩
        rw [List.length_map, List.take_length] at eD
        have s23 := sW.trans s3
        have bad : NZ.cys (ps.map rdw) = none → Q .non H3 := fun h => hn (okC_none (NZ.allS_none.mp (by rw [he]; exact List.mem_map.mpr ⟨u, mu, by rw [ec]; exact h⟩))) H3 (sz.trans s23)
        have eF3 := s23 _ _ eFz
        generalize ps.map rdw = os at bad eD ec
        refine ⟨.ref D, rfl, D, _, rfl, .inl (SqL.of eD), rfl, _, rfl, ?_⟩
        have el : V.int ((os.map optV).length : Int) = V.int 2 ↔ os.length = 2 := by
          rw [List.length_map]
          constructor
          · intro z; have := V.int.inj z; omega
          · intro z; rw [z]; rfl
        by_cases l2 : os.length = 2
        rotate_left
        · rw [decide_eq_false fun z => l2 (el.mp z)]
          refine iteT (bad ?_)
          match os, l2 with
          | [], _ => rfl
          | [_], _ => rfl
          | [_, _], h => exact absurd rfl h
          | _ :: _ :: _ :: _, _ => rfl
        rw [decide_eq_true (el.mpr l2)]
        refine iteF ⟨.ref D, rfl, D, _, rfl, .inl (SqL.of eD), rfl, opt_flat _, _, rfl, ?_⟩
        rw [opt_in]
        match os, l2 with
        | [none, _], _ => exact iteT (bad rfl)
        | [some _, none], _ => exact iteT (bad rfl)
        | [some p, some q], _ =>
          refine iteF ⟨.ref D, rfl, D, _, 0, .int p, rfl, rfl, SqL.of eD, at_of (j := 0) rfl rfl, .ref D, rfl, D, _, 1, .int q, rfl, rfl, SqL.of eD, at_of (j := 1) rfl rfl, p, q, rfl, rfl, _, rfl, ?_⟩
          by_cases c1 : q ≤ p
          · rw [decide_eq_true c1]
            exact iteT (bad (if_neg (by omega)))
          rw [decide_eq_false c1]
          have ec2 : cyw u = some (p, q) := ec.trans (if_pos (by omega))
          have al : acc.length = i := by
            have h1 := pa.length
            have h2 := congrArg List.length hcs
            have h3 := (List.getElem?_eq_some_iff.mp hu).1
            rw [List.length_map, List.length_map, List.length_take] at h2
            omega
          have il := (List.getElem?_eq_some_iff.mp hu).1
          refine iteF ⟨.ref F0, rfl, .inl ⟨rfl, _, SqL.of eF3⟩, .ref D, rfl, D, _, rfl, .inl ⟨SqL.of eD, fun t nt => ?_⟩⟩
          have st := same_new (o := .tup (([some p, some q] : List (Option Int)).map optV)) nt
          have et : (upd H3 t (.tup (([some p, some q] : List (Option Int)).map optV))) t = some (.tup [.int p, .int q]) := upd_same
          generalize upd H3 t (.tup (([some p, some q] : List (Option Int)).map optV)) = H4 at st et ⊢
          have s34 := s23.trans st
          have eF4 := s34 _ _ eFz
          have eS4 := s34 _ _ eSz
          refine ⟨F0, acc, .ref t, rfl, rfl, eF4, Nat.lt_of_le_of_lt (show _ ≤ 22000 by omega) (by decide), same_again nF (sz.trans s34), by rw [upd_ne (Ne.symm nFS)]; exact eS4, acc ++ [.ref t], cs ++ [(p, q)], upd_same, ?_, ?_, _, _, _, rfl⟩
          · exact pairs_put eF4 ((pa.same s34).append ⟨⟨t, rfl, et⟩, trivial⟩)
          · rw [List.take_add_one, hu, List.map_append, hcs, List.map_append]; show _ ++ [cyw u] = _ ++ [some (p, q)]; rw [ec2]
      rintro σ H' ⟨sz, eSz, acc, cs, eFz, pa, hcs, r2, r3, r4, rfl⟩
      rw [List.length_map, List.take_length, ← he] at hcs
      have ea : allS (cyr x) = some cs := by rw [hcs]; exact NZ.allS_map cs
      refine ⟨.ref F0, rfl, .ref F0, rfl, F0, acc, kOf H', rfl, SqL.of eFz, (pairs_key pa).2, fun ys p h1 h2 np => ?_⟩
      obtain ⟨ds, pd, perm, srt⟩ := sorted_out pa h1 h2
      have sp := same_new (o := .lst ys) np
      refine ⟨.list (dPairs cs), .list (dPairs ds), .lst (SqL.of (sp _ _ eFz)) (dp_pairs (pa.same sp)), .lst (SqL.of upd_same) (dp_pairs (pd.same sp)), shaped_prs _, shaped_prs _, _, rfl, ?_⟩
      rw [ev_prs]
      by_cases c : cs = ds
      · rw [decide_eq_true c]
        exact iteT ⟨.ref F0, rfl, hs cs (okC_yes ea (by rw [c]; exact srt)) _ F0 acc (sz.trans sp) (sp _ _ eFz) (pa.same sp)⟩
      · rw [decide_eq_false c]
        exact iteF (hn (okC_no ea fun z => c (sorted_same perm.symm z srt)) _ (sz.trans sp))
def spDU : Sp := fun vs H Q _ => ∃ x : Str, vs = [.str x] ∧ x.length ≤ 20000 ∧ Asc x ∧ ∀ H', Same H H' → Q (tld x) H'
theorem ok_DU {f : Addr} {fd : FuncData} {fLN : Addr} {dLN : FuncData} {fLC : Addr} {dLC : FuncData} {fLP : Addr} {dLP : FuncData} {fPL : Addr} {dPL : FuncData} {fLH : Addr} {dLH : FuncData} {k : Nat} (F : Fun K "_law_due" "_law_due" sDU f fd) (GLN : FnOk P w K mg base CX0 (k + 1) fLN dLN ["word"] spLN) (gLN : mg "_law_number" = some (.ref fLN)) (kLN : PySem.W.keepIn K (.ref fLN) = true) (bLN : Binds K dLN ["word"] []) (GLC : FnOk P w K mg base CX0 (k + 2) fLC dLC ["row"] spLC) (gLC : mg "_law_cycles" = some (.ref fLC)) (kLC : PySem.W.keepIn K (.ref fLC) = true) (bLC : Binds K dLC ["row"] []) (GLP : FnOk P w K mg base CX0 (k + 1) fLP dLP ["load"] (spLP K)) (gLP : mg "_law_points" = some (.ref fLP)) (kLP : PySem.W.keepIn K (.ref fLP) = true) (bLP : Binds K dLP ["load"] []) (GPL : FnOk P w K mg base CX0 (k + 2) fPL dPL ["points"] (spPl K)) (gPL : mg "_law_places" = some (.ref fPL)) (kPL : PySem.W.keepIn K (.ref fPL) = true) (bPL : Binds K dPL ["points"] []) (GLH : FnOk P w K mg base CX0 (k + 1) fLH dLH ["outer", "inner"] (spCont K)) (gLH : mg "_law_holds" = some (.ref fLH)) (kLH : PySem.W.keepIn K (.ref fLH) = true) (bLH : Binds K dLH ["outer", "inner"] []) (mlen : mg "len" = none) (mmn : mg "min" = none) (mmx : mg "max" = none) : FnOk P w K mg base CX0 (k + 3) f fd ["text"] spDU := by
  refine F.ok scDU (fun vs H Q E h => ?_) (fun cdv A outer s H vs Q E hr h => ?_)
  · obtain ⟨x, rfl, _⟩ := h
    rfl
  · obtain ⟨x, rfl, hl, hasc, hq⟩ := h
    refine ⟨_, (pss_cons (ps_set (i := 1) scDU.nd rfl (.inl rfl) (pe_split (pv 0) pe_str))
      (pss_cons (ps_set (i := 2) scDU.nd rfl (.inl rfl) (pe_call (GLC.mono (show k + 2 ≤ k + 2 by omega)) hr (by rfl) gLC kLC bLC .nil pass0 (pa_cons (pe_ix ix_list (pv 1) pe_int (fun _ _ => rfl)) pa_nil)))
      (pss_cons (ps_if (pt_cmpR op_isN (pv 2) pe_non (nomark _)) (pss_one (ps_ret pe_int)) pss_nil)
      (pss_cons (ps_set (i := 3) scDU.nd rfl (.inl rfl) pe_non)
      (pss_cons (ps_if (pt_cmpR op_gt (pe_callB call_len_seq (by rfl) mlen PySem.boot_len (pa_cons (pv 1) pa_nil)) pe_int (nomark _)) (pss_one (ps_set (i := 3) scDU.nd rfl (.inl rfl) (pe_ifExp (pt_cmpR op_eq (pe_ix ix_list (pv 1) pe_int (fun _ _ => rfl)) pe_str (nomark _)) (pe_lst pa_nil) (pe_lc (own := [("word", 5)]) (g := gName 5) (tt := tYes) (te := tCall spLN [] E0 (tCons (tVar 5) tNil)) rfl scDU.nd (pi_list (pe_split (pe_ix ix_list (pv 1) pe_int (fun _ _ => rfl)) pe_str)) (blkOk_by (own := [("word", 5)]) (N := ["text", "rows", "cycles", "rest", "cycle", "word"]) (sc := defScope sDU) (by decide +kernel)) (fun _ _ _ _ _ => (pg_name (i := 5) scDU.nd rfl (Or.inl rfl) (Or.inr rfl))) (fun _ _ _ _ _ => pts_nil) (fun _ _ _ _ _ => (pe_call (GLN.mono (show k + 1 ≤ k + 2 by omega)) hr (by rfl) gLN kLN bLN .nil pass0 (pa_cons (pv 5) pa_nil))))))) pss_nil)
      (pss_cons (ps_if (PW.pt (pw_or (pt_cmpR op_isN (pv 3) pe_non (nomark _)) (pw_or1 (pt_cmpR op_in_seq pe_non (pv 3) (by rfl))))) (pss_one (ps_ret pe_int)) pss_nil)
      (pss_cons (ps_if (pt_cmpR op_gt (pe_callB call_len_seq (by rfl) mlen PySem.boot_len (pa_cons (pv 1) pa_nil)) pe_int (nomark _)) (pss_one (ps_ret pe_int)) pss_nil)
      (pss_cons (ps_if (PW.pt (pw_or (pt_cmpR (op_neD hr.units) (pe_call (GLP.mono (show k + 1 ≤ k + 2 by omega)) hr (by rfl) gLP kLP bLP .nil pass0 (pa_cons (pv 3) pa_nil)) (pv 3) (nomark _)) (pw_or1 (pt_cmpR (op_neD hr.units) (pe_call (GPL.mono (show k + 2 ≤ k + 2 by omega)) hr (by rfl) gPL kPL bPL .nil pass0 (pa_cons (pv 3) pa_nil)) (pe_lst pa_nil) (nomark _))))) (pss_one (ps_ret pe_int)) pss_nil)
      (pss_cons (ps_for PassesOwn.never rfl (pi_list (pv 2)) (pg_name (i := 4) scDU.nd rfl (.inl rfl))
      (pss_one (ps_if (PW.pt (pw_or (pt_cmpR op_lt (pe_callB call_len_seq (by rfl) mlen PySem.boot_len (pa_cons (pv 3) pa_nil)) pe_int (nomark _)) (pw_or1 (pt_not (pt_val (pe_call (GLH.mono (show k + 1 ≤ k + 2 by omega)) hr (by rfl) gLH kLH bLH .nil pass0 (pa_cons (pe_tup (pa_cons (pe_callB (GU.cr_minS rfl) (by rfl) mmn (by decide +kernel) (pa_cons (pv 3) pa_nil)) (pa_cons (pe_callB (GU.cr_maxS rfl) (by rfl) mmx (by decide +kernel) (pa_cons (pv 3) pa_nil)) pa_nil))) (pa_cons (pv 4) pa_nil)))))))) (pss_one (ps_ret pe_int)) pss_nil)))
      (pss_one (ps_ret (pv 0)))))))))))), ?_⟩
    have lc := NY.split_count NX.nlk NZ.nlkk x
    have lp := NY.split_part NX.nlk NZ.nlkk x
    have la := split_asc NX.nlk NZ.nlkk hasc
    refine ⟨.str x, rfl, ⟨_, rfl⟩, x, "\n", rfl, rfl, by decide +kernel, Nat.le_trans (Nat.add_le_add_right hl 2) (by decide), fun S nS => ?_⟩
    have hne : Txt.split x "\n" ≠ [] := fun z => NY.spl_ne 10 (TL.tl x) [] (by rw [← NY.split_map NX.nlk NZ.nlkk, z]; rfl)
    have bad : ∀ j : Nat, pcr (Txt.split x "\n") = .inl j → ∀ H', Same H H' → Q (.int (j : Int)) H' := fun j hj H' s => by
      have := hq H' s
      rw [tld_bad hj] at this
      exact this
    have good : ∀ c, pcr (Txt.split x "\n") = .inr c → ∀ H', Same H H' → Q (.str x) H' := fun c hj H' s => by
      have := hq H' s
      rw [tld_ok hj] at this
      exact this
    generalize Txt.split x "\n" = ws at hne lc lp la bad good ⊢
    have sS := same_new (o := .lst (ws.map V.str)) nS
    have eS := upd_same (H := H) (a := S) (o := .lst (ws.map V.str))
    generalize upd H S (.lst (ws.map V.str)) = H0 at sS eS ⊢
    obtain ⟨r0, more, rfl⟩ := List.exists_cons_of_ne_nil hne
    have l0 := lp r0 List.mem_cons_self
    refine ⟨.ref S, rfl, S, _, 0, .str r0, rfl, rfl, SqL.of eS, at_of (j := 0) rfl rfl, r0, rfl, by omega, la r0 List.mem_cons_self, fun hn H1 s1 => ?_, fun cs hc H1 c xs s1 ec pa => ?_⟩
    · exact ⟨.non, rfl, rfl, true, rfl, iteT (bad 0 (pcr_0 hn) H1 (sS.trans s1))⟩
    have eS1 := s1 _ _ eS
    have s01 := sS.trans s1
    refine ⟨.ref c, rfl, rfl, false, rfl, iteF ⟨.ref S, rfl, S, _, rfl, .inl (SqL.of eS1), _, 1, rfl, rfl, _, rfl, ?_⟩⟩
    cases more with
    | nil => exact iteF ⟨.non, rfl, rfl, true, rfl, iteT (bad 1 (pcr_1 hc) H1 s01)⟩
    | cons r1 rest =>
    have m1 : r1 ∈ r0 :: r1 :: rest := List.mem_cons_of_mem _ List.mem_cons_self
    have l1 := lp r1 m1
    rw [decide_eq_true (show (1 : Int) < (((r0 :: r1 :: rest).map V.str).length : Int) by rw [List.length_map, List.length_cons, List.length_cons]; omega)]
    refine iteT ⟨.ref S, rfl, S, _, 1, .str r1, rfl, rfl, SqL.of eS1, at_of (j := 1) rfl rfl, rfl, _, rfl, ?_⟩
    by_cases hx : r1 = "none"
    · rw [decide_eq_true (show V.str r1 = V.str "none" from congrArg V.str hx)]
      refine iteT ⟨Nat.zero_le _, fun D nD => ?_⟩
      have s3 := same_new (o := .lst []) nD
      have eD : (upd H1 D (.lst [])) D = some (.lst ((rsr r1).map optV)) := by
        rw [show rsr r1 = [] from by unfold NZ.rsr; rw [if_pos hx]]; exact upd_same
      generalize upd H1 D (.lst []) = H3 at s3 eD ⊢
      have eS3 := s3 _ _ eS1
      have s03 := s01.trans s3
      refine ⟨.ref D, rfl, rfl, false, rfl, iteF ⟨.ref D, rfl, D, _, rfl, .inl (SqL.of eD), rfl, opt_flat _, _, rfl, ?_⟩⟩
      rw [opt_in, any_allS]
      cases ea : allS (rsr r1) with
      | none => exact iteT (bad 1 (pcr_2 hc ea) _ s03)
      | some nz =>
      have lnz : nz.length ≤ 20001 := by have := allS_len ea; have := rsr_len r1; omega
      rw [NZ.allS_some ea, List.map_map] at eD
      have eD : H3 D = some (.lst (nz.map V.int)) := eD
      refine iteF ⟨.ref S, rfl, S, _, rfl, .inl (SqL.of eS3), _, 2, rfl, rfl, _, rfl, ?_⟩
      cases rest with
      | cons r2 rest =>
        rw [decide_eq_true (show (2 : Int) < (((r0 :: r1 :: r2 :: rest).map V.str).length : Int) by rw [List.length_map, List.length_cons, List.length_cons, List.length_cons]; omega)]
        exact iteT (bad 2 (pcr_3 hc ea) _ s03)
      | nil =>
      refine iteF ⟨.ref D, rfl, D, nz, rfl, SqL.of eD, by omega, fun H4 p s4 np ep => ⟨.ref D, rfl, .list (dInts (tp nz)), .list (dInts nz), .lst (SqL.of ep) (dp_ints _), .lst (SqL.of (s4 _ _ eD)) (dp_ints _), shaped_lst _, shaped_lst _, _, rfl, ?_⟩⟩
      rw [ev_lst]
      have s04 := s03.trans s4
      by_cases ht : tp nz = nz
      rotate_left
      · rw [decide_eq_false ht]
        exact iteT (bad 1 (pcr_4 hc ea (by unfold leftB; rw [decide_eq_false ht]; rfl)) _ s04)
      rw [decide_eq_true ht]
      refine iteF ⟨.ref D, rfl, D, nz, rfl, SqL.of (s4 _ _ eD), by omega, fun H5 p2 s5 np2 ep2 => ⟨Nat.zero_le _, fun z nz2 => ?_⟩⟩
      have sz := same_new (o := .lst []) nz2
      refine ⟨.list (dInts (plc nz)), .list (dInts []), .lst (SqL.of (sz _ _ ep2)) (dp_ints _), .lst (SqL.of upd_same) (dp_ints []), shaped_lst _, shaped_lst [], _, rfl, ?_⟩
      rw [ev_lst]
      have s06 := s04.trans (s5.trans sz)
      have s16 := s3.trans (s4.trans (s5.trans sz))
      have s36 := s4.trans (s5.trans sz)
      generalize upd H5 z (.lst []) = H6 at sz s06 s16 s36 ⊢
      by_cases hp : plc nz = []
      rotate_left
      · rw [decide_eq_false hp]
        exact iteT (bad 1 (pcr_4 hc ea (by unfold leftB; cases e : plc nz with
          | nil => exact absurd e hp
          | cons _ _ => simp)) _ s06)
      rw [decide_eq_true hp]
      have hlf : leftB nz = true := by unfold leftB; rw [decide_eq_true ht, hp]; rfl
      have ec6 := s16 _ _ ec
      have pa6 := pa.same s16
      have eD6 := s36 _ _ eD
      refine iteF ⟨.ref c, rfl, c, rfl, ⟨_, SqL.of ec6⟩, for_list (K := K) (a := c) (xs := xs) (fun i σ Hz => Same H6 Hz ∧ inB (cs.take i) nz = true ∧ ∃ r4 r5 : Option V, σ = [some (.str x), some (.ref S), some (.ref c), some (.ref D), r4, r5]) ⟨Same.refl _, rfl, _, _, rfl⟩ (fun _ _ _ _ z => SqL.of (z.1 _ _ ec6)) ?_ ?_⟩
      · rintro i y σ Hz hy ⟨sz2, hib, r4, r5, rfl⟩
        obtain ⟨r, q, hr1, rfl, hq2⟩ := pr_at (pa6.same sz2) hy
        have hmr := List.mem_of_getElem? hr1
        have eDz := sz2 _ _ eD6
        have outs : inB cs nz = false → Q (.int ((0 : Nat) : Int)) Hz := fun h => bad 0 (pcr_5 hc ea hlf h) _ (s06.trans sz2)
        refine ⟨.ref D, rfl, D, _, rfl, .inl (SqL.of eDz), _, 2, rfl, rfl, _, rfl, ?_⟩
        by_cases l2 : nz.length < 2
        · rw [decide_eq_true (show ((nz.map V.int).length : Int) < 2 by rw [List.length_map]; omega)]
          exact iteT (outs (one_out hmr ((NZ.cyr_back (NZ.allS_some (okC_some hc).1)).2 r hmr).1 l2))
        rw [decide_eq_false (show ¬ ((nz.map V.int).length : Int) < 2 by rw [List.length_map]; omega)]
        refine iteF ⟨.ref D, rfl, D, nz, rfl, .inl (SqL.of eDz), by omega, fun mn h1 h2 => ⟨.ref D, rfl, D, nz, rfl, .inl (SqL.of eDz), by omega, fun mx h3 h4 => ⟨(show 2 ≤ sizeLine by decide), fun wp nw => ?_⟩⟩⟩
        have sw := same_new nw (o := .tup [.int mn, .int mx])
        refine ⟨.ref q, rfl, wp, q, mn, mx, r.1, r.2, rfl, SqT.of upd_same, SqT.of (sw _ _ hq2), _, rfl, ?_⟩
        have hb2 := inB_take (ns := nz) hr1
        rw [any_min h1 h2, any_max h3 h4] at hb2
        cases hcc : (decide (mn ≤ r.1) && decide (r.2 ≤ mx)) with
        | true =>
          rw [hcc, hib] at hb2
          exact iteF ⟨sz2.trans sw, hb2, _, _, rfl⟩
        | false =>
          refine iteT ?_
          have hno : inB cs nz = false := Bool.eq_false_iff.mpr fun z => by
            have := List.all_eq_true.mp z r hmr
            rw [any_min h1 h2, any_max h3 h4, hcc] at this
            cases this
          exact bad 0 (pcr_5 hc ea hlf hno) _ (s06.trans (sz2.trans sw))
      · rintro σ Hz ⟨sz2, hib, r4, r5, rfl⟩
        rw [pa.length, List.take_length] at hib
        exact ⟨.str x, rfl, good _ (pcr_6 hc ea hlf hib) _ (s06.trans sz2)⟩
    · rw [decide_eq_false (show ¬ V.str r1 = V.str "none" from fun z => hx (V.str.inj z))]
      have lw := NY.split_count NX.blk NZ.blkk r1
      have lq := NY.split_part NX.blk NZ.blkk r1
      have aw := split_asc NX.blk NZ.blkk (la r1 m1)
      have he : rsr r1 = (Txt.split r1 " ").map rdw := by unfold NZ.rsr; rw [if_neg hx]
      refine iteF ⟨.ref S, rfl, S, _, 1, .str r1, rfl, rfl, SqL.of eS1, at_of (j := 1) rfl rfl, ⟨_, rfl⟩, r1, " ", rfl, rfl, by decide +kernel, Nat.le_trans (Nat.add_le_add_right (Nat.le_trans l1 hl) 2) (by decide), fun W nW => ?_⟩
      generalize Txt.split r1 " " = ps at he lw lq aw ⊢
      have sW := same_new (o := .lst (ps.map V.str)) nW
      have eW := upd_same (H := H1) (a := W) (o := .lst (ps.map V.str))
      generalize upd H1 W (.lst (ps.map V.str)) = H2 at sW eW ⊢
      refine ⟨W, rfl, ⟨_, SqL.of eW⟩, fun D nD => ?_⟩
      refine lc_list (K := K) (a := W) (xs := ps.map V.str) (fun j Hw => Same H2 Hw ∧ Hw D = some (.lst (((ps.take j).map rdw).map optV))) ⟨same_new nD, upd_same⟩ (fun j Hw _ z => SqL.of (z.1 _ _ eW)) ?_ ?_
      · rintro j y Hw hy ⟨sw, eD⟩
        obtain ⟨v, hv, rfl⟩ := strs_at hy
        have mv := List.mem_of_getElem? hv
        have lv := lq v mv
        refine ⟨rfl, iteT (B := True) ⟨.str v, rfl, v, rfl, by omega, aw v mv, fun H' s => ⟨_, s _ _ eD, ?_, same_again nD (sw.trans s), ?_⟩⟩⟩
        · rw [List.length_map, List.length_map, List.length_take]; exact Nat.lt_of_le_of_lt (show _ ≤ 30000 by omega) (by decide)
        · rw [upd_same, List.take_add_one, hv, List.map_append, List.map_append]; rfl
      rintro H3 ⟨s3, eD⟩
      rw [List.length_map, List.take_length, ← he] at eD
      have s3 := sW.trans s3
      have eS3 := s3 _ _ eS1
      have s03 := s01.trans s3
      refine ⟨.ref D, rfl, rfl, false, rfl, iteF ⟨.ref D, rfl, D, _, rfl, .inl (SqL.of eD), rfl, opt_flat _, _, rfl, ?_⟩⟩
      rw [opt_in, any_allS]
      cases ea : allS (rsr r1) with
      | none => exact iteT (bad 1 (pcr_2 hc ea) _ s03)
      | some nz =>
      have lnz : nz.length ≤ 20001 := by have := allS_len ea; have := rsr_len r1; omega
      rw [NZ.allS_some ea, List.map_map] at eD
      have eD : H3 D = some (.lst (nz.map V.int)) := eD
      refine iteF ⟨.ref S, rfl, S, _, rfl, .inl (SqL.of eS3), _, 2, rfl, rfl, _, rfl, ?_⟩
      cases rest with
      | cons r2 rest =>
        rw [decide_eq_true (show (2 : Int) < (((r0 :: r1 :: r2 :: rest).map V.str).length : Int) by rw [List.length_map, List.length_cons, List.length_cons, List.length_cons]; omega)]
        exact iteT (bad 2 (pcr_3 hc ea) _ s03)
      | nil =>
      refine iteF ⟨.ref D, rfl, D, nz, rfl, SqL.of eD, by omega, fun H4 p s4 np ep => ⟨.ref D, rfl, .list (dInts (tp nz)), .list (dInts nz), .lst (SqL.of ep) (dp_ints _), .lst (SqL.of (s4 _ _ eD)) (dp_ints _), shaped_lst _, shaped_lst _, _, rfl, ?_⟩⟩
      rw [ev_lst]
      have s04 := s03.trans s4
      by_cases ht : tp nz = nz
      rotate_left
      · rw [decide_eq_false ht]
        exact iteT (bad 1 (pcr_4 hc ea (by unfold leftB; rw [decide_eq_false ht]; rfl)) _ s04)
      rw [decide_eq_true ht]
      refine iteF ⟨.ref D, rfl, D, nz, rfl, SqL.of (s4 _ _ eD), by omega, fun H5 p2 s5 np2 ep2 => ⟨Nat.zero_le _, fun z nz2 => ?_⟩⟩
      have sz := same_new (o := .lst []) nz2
      refine ⟨.list (dInts (plc nz)), .list (dInts []), .lst (SqL.of (sz _ _ ep2)) (dp_ints _), .lst (SqL.of upd_same) (dp_ints []), shaped_lst _, shaped_lst [], _, rfl, ?_⟩
      rw [ev_lst]
      have s06 := s04.trans (s5.trans sz)
      have s16 := s3.trans (s4.trans (s5.trans sz))
      have s36 := s4.trans (s5.trans sz)
      generalize upd H5 z (.lst []) = H6 at sz s06 s16 s36 ⊢
      by_cases hp : plc nz = []
      rotate_left
      · rw [decide_eq_false hp]
        exact iteT (bad 1 (pcr_4 hc ea (by unfold leftB; cases e : plc nz with
          | nil => exact absurd e hp
          | cons _ _ => simp)) _ s06)
      rw [decide_eq_true hp]
      have hlf : leftB nz = true := by unfold leftB; rw [decide_eq_true ht, hp]; rfl
      have ec6 := s16 _ _ ec
      have pa6 := pa.same s16
      have eD6 := s36 _ _ eD
      refine iteF ⟨.ref c, rfl, c, rfl, ⟨_, SqL.of ec6⟩, for_list (K := K) (a := c) (xs := xs) (fun i σ Hz => Same H6 Hz ∧ inB (cs.take i) nz = true ∧ ∃ r4 r5 : Option V, σ = [some (.str x), some (.ref S), some (.ref c), some (.ref D), r4, r5]) ⟨Same.refl _, rfl, _, _, rfl⟩ (fun _ _ _ _ z => SqL.of (z.1 _ _ ec6)) ?_ ?_⟩
      · rintro i y σ Hz hy ⟨sz2, hib, r4, r5, rfl⟩
        obtain ⟨r, q, hr1, rfl, hq2⟩ := pr_at (pa6.same sz2) hy
        have hmr := List.mem_of_getElem? hr1
        have eDz := sz2 _ _ eD6
        have outs : inB cs nz = false → Q (.int ((0 : Nat) : Int)) Hz := fun h => bad 0 (pcr_5 hc ea hlf h) _ (s06.trans sz2)
        refine ⟨.ref D, rfl, D, _, rfl, .inl (SqL.of eDz), _, 2, rfl, rfl, _, rfl, ?_⟩
        by_cases l2 : nz.length < 2
        · rw [decide_eq_true (show ((nz.map V.int).length : Int) < 2 by rw [List.length_map]; omega)]
          exact iteT (outs (one_out hmr ((NZ.cyr_back (NZ.allS_some (okC_some hc).1)).2 r hmr).1 l2))
        rw [decide_eq_false (show ¬ ((nz.map V.int).length : Int) < 2 by rw [List.length_map]; omega)]
        refine iteF ⟨.ref D, rfl, D, nz, rfl, .inl (SqL.of eDz), by omega, fun mn h1 h2 => ⟨.ref D, rfl, D, nz, rfl, .inl (SqL.of eDz), by omega, fun mx h3 h4 => ⟨(show 2 ≤ sizeLine by decide), fun wp nw => ?_⟩⟩⟩
        have sw := same_new nw (o := .tup [.int mn, .int mx])
        refine ⟨.ref q, rfl, wp, q, mn, mx, r.1, r.2, rfl, SqT.of upd_same, SqT.of (sw _ _ hq2), _, rfl, ?_⟩
        have hb2 := inB_take (ns := nz) hr1
        rw [any_min h1 h2, any_max h3 h4] at hb2
        cases hcc : (decide (mn ≤ r.1) && decide (r.2 ≤ mx)) with
        | true =>
          rw [hcc, hib] at hb2
          exact iteF ⟨sz2.trans sw, hb2, _, _, rfl⟩
        | false =>
          refine iteT ?_
          have hno : inB cs nz = false := Bool.eq_false_iff.mpr fun z => by
            have := List.all_eq_true.mp z r hmr
            rw [any_min h1 h2, any_max h3 h4, hcc] at this
            cases this
          exact bad 0 (pcr_5 hc ea hlf hno) _ (s06.trans (sz2.trans sw))
      · rintro σ Hz ⟨sz2, hib, r4, r5, rfl⟩
        rw [pa.length, List.take_length] at hib
        exact ⟨.str x, rfl, good _ (pcr_6 hc ea hlf hib) _ (s06.trans sz2)⟩
def spTO : Sp := fun vs H Q _ => ∃ x : Str, vs = [.str x] ∧ x.length ≤ 20000 ∧ ∀ H', Same H H' → Q (tld x) H'
theorem ok_TO {f : Addr} {fd : FuncData} {C CE CW pP fPA fUS : Addr} {dPA dUS : FuncData} {k : Nat} (F : Fun K "_law_told" "_law_told" sTO f fd) (gT : mg "Count" = some (.ref C)) (ins : C8.InsC K C) (rd : ClX.CRead K C (.type "type")) (cm : ClX.CMet K C (.type "type") "parse" pP fPA) (GPE : FnOk P w K mg base (CX P w) (k + 7) fPA dPA ["cls", "text"] (spPE C CE)) (bPA : Binds K dPA ["cls", "text"] [])
  (fnUS : PySem.W.findIn K (.ref C) "__str__" = some (some (.ref fUS))) (iUS : PySem.W.isFn K (.ref fUS) = true) (GUS : FnOk P w K mg base CX0 (k + 2) fUS dUS ["self"] (WN.spST C)) (bUS : Binds K dUS ["self"] [])
  (gE : mg "InvalidText" = some (.ref CE)) (gW : mg "WearError" = some (.ref CW)) (exm : PySem.W.exmOne K (.ref CE) (.ref CW) = some true) (xf : XS.XfA K "row" CE) (ec : ExcC K CE) (kv : PySem.W.kitOne K (.ref CE) (.type "ValueError") = some true) (mis : mg "isinstance" = none) (mst : mg "str" = none) (mve : mg "ValueError" = none) : FnOk P w K mg base CX0 (k + 8) f fd ["text"] spTO := by
  refine F.ok scTO (fun vs H Q E h => ?_) (fun cdv A outer s H vs Q E hr h => ?_)
  · obtain ⟨x, rfl, _⟩ := h
    rfl
  · obtain ⟨x, rfl, hl, hq⟩ := h
    refine ⟨_, (pss_cons (ps_asg (pe_tup (pa_cons pe_non (pa_cons pe_non pa_nil))) (pg_tup rfl (pgs_cons (pg_name (i := 1) scTO.nd rfl (.inl rfl)) (pgs_cons (pg_name (i := 2) scTO.nd rfl (.inl rfl)) pgs_nil))))
      (pss_cons (XS.ps_try_keep (i := 3) (tb := fun W => tAsg (GCM.tCMethS C (fun vs H Q E => spPE C CE (vs ++ []) H Q E) (WE W) (tC (.ref C)) (tCons (tVar 0) tNil)) (gName 2)) (ts := fun a cls d => tAsg (tVar 3) (gName 1)) (Wout := fun _ _ _ _ => False) rfl rfl rfl scTO.nd rfl rfl ⟨rfl, by decide, Or.inl gW⟩ takes0
        (fun W pn xe tk _ => pss_one (ps_set (i := 2) scTO.nd rfl (Or.inl rfl) (by exact (GCM.pe_cmethS (pe_glob (v := .ref C) (by rfl) gT rfl) rd cm (GPE.raw bPA .nil) hr (fun σ => passAt tk σ) (by exact (pa_cons (pv 0) pa_nil))))))
        (fun a oe cls d pn hz hf => pss_one (ps_set (i := 1) scTO.nd rfl (Or.inl rfl) (by exact (pv 3)))))
      (pss_cons (ps_if (pt_cmpR op_isN (pv 1) pe_non (nomark _)) (pss_one (ps_ret (pe_ifExp (pt_val (pe_callB (C8.call_isC ins) (by rfl) mis (by decide +kernel) (pa_cons (pv 2) (pa_cons (pe_glob (v := .ref C) (by rfl) gT rfl) pa_nil)))) (pe_callTy (GS.cr_strOwn (GUS.mono (show k + 2 ≤ k + 5 by omega)) hr fnUS iUS bUS pass0) (by rfl) mst (by decide +kernel) (pa_cons (pv 2) pa_nil)) pe_str))) pss_nil)
      (pss_one (ps_ret (pe_ifExp (PW.pt (pw_and (pt_val (pe_callB XS.call_isK (by rfl) mis (by decide +kernel) (pa_cons (pv 1) (pa_cons (pe_glob (v := .ref CE) (by rfl) gE rfl) pa_nil)))) (pw_and1 (pt_val (pe_callB XS.call_isK (by rfl) mis (by decide +kernel) (pa_cons (pv 1) (pa_cons (pe_bltn (v := .ty "ValueError") (by rfl) mve (by decide +kernel) rfl) pa_nil))))))) (XS.pe_xk (pv 1)) pe_str)))))), ?_⟩
    refine ⟨by show 2 ≤ sizeLine; decide, fun t nt => ⟨t, _, rfl, SqT.of upd_same, rfl, .non, [.non], rfl, .non, [], rfl, rfl, ?_⟩⟩
    have s0 := same_new (o := .tup [V.non, V.non]) nt
    generalize upd H t (.tup [V.non, V.non]) = H0 at s0 ⊢
    refine ⟨rfl, .str x, rfl, x, rfl, hl, fun cs rs hcr H1 t1 s1 tab => ?_, fun j hj H1 dx s1 ndx => ⟨true, exm, fun _ ae nae => ?_, fun q => nomatch q⟩⟩
    · obtain ⟨ex, va⟩ := pcn_back hcr
      have les := pcn_len hcr hl
      obtain ⟨dt, t2, t3, tys, ht, _⟩ := id tab
      refine ⟨.non, rfl, rfl, true, rfl, iteT ⟨.ref t1, rfl, t1, dt, _, rfl, ht, _, rfl, iteT ⟨.ref t1, rfl, t1, dt, _, rfl, ht, t1, cs, rs, rfl, tab, ok_small va (by omega) (by omega), fun H2 s2 => ⟨_, rfl, ?_⟩⟩⟩⟩
      have hq := hq H2 (s0.trans (s1.trans s2))
      rw [tld_ok hcr, ex, ← txt_eq] at hq
      exact hq
    · have s2 := same_new (o := .xd [(("row" : Str), .int (j : Int))]) ndx
      have hdx := upd_same (H := H1) (a := dx) (o := .xd [(("row" : Str), .int (j : Int))])
      generalize upd H1 dx (.xd [(("row" : Str), .int (j : Int))]) = H2 at nae s2 hdx ⊢
      have s3 := same_new (o := XS.exk ae (.ref CE) (some dx)) nae
      have hae := upd_same (H := H2) (a := ae) (o := XS.exk ae (.ref CE) (some dx))
      refine ⟨.ref ae, rfl, ?_⟩
      have hdx3 := s3 _ _ hdx
      refine ⟨.ref ae, rfl, rfl, false, rfl, iteF ?_⟩
      refine ⟨.ref ae, rfl, ae, CE, dx, _, .ref CE, .ref CE, true, rfl, ec, hae, hdx3, fun u ru => ru, if_pos (beq_self_eq_true _), true, rfl, iteT ?_⟩
      refine ⟨.ref ae, rfl, ae, CE, dx, _, .ty "ValueError", .type "ValueError", true, rfl, ec, hae, hdx3, fun u ru => ru, kv, true, rfl, iteT ?_⟩
      refine ⟨.ref ae, rfl, ae, CE, dx, _, .int (j : Int), rfl, xf, hae, hdx3, rfl, ?_⟩
      have hq := hq _ (s0.trans (s1.trans (s2.trans s3)))
      rw [tld_bad hj] at hq
      exact hq
def spRR : Sp := fun vs H Q _ => ∃ (x : Str) (a h : Addr) (ns : List Int) (xs : List V) (ds es : List (Int × Int)) (rs : List Int), vs = [.str x, .ref a, .ref h] ∧ x = NZ.txt ds rs ∧ x.length ≤ 20000 ∧ Cn ns ds rs ∧ (∀ n ∈ ns, n.natAbs ≤ 1000000000) ∧ ns.length ≤ 100 ∧ H a = some (.lst (ns.map V.int)) ∧ H h = some (.lst xs) ∧ PairsAt H xs es ∧ es.Perm (ds ++ ds ++ sw rs) ∧ es.Pairwise Le ∧ ∀ H', Same H H' → Q (.bl true) H'
theorem ok_RR {f : Addr} {fd : FuncData} {C CE pP pO fPA fOF fJN p3 fPH pR fPR fPG fEQ : Addr} {dPA dOF dPH dPR dPG dEQ : FuncData} {k : Nat} (F : Fun K "_law_read_right" "_law_read_right" sRR f fd) (gT : mg "Count" = some (.ref C)) (cn : Cnt K C) (rd : ClX.CRead K C (.type "type")) (cm : ClX.CMet K C (.type "type") "parse" pP fPA) (GPE : FnOk P w K mg base (CX P w) (k + 7) fPA dPA ["cls", "text"] (spPE C CE)) (bPA : Binds K dPA ["cls", "text"] [])
  (cmO : ClX.CMet K C (.type "type") "of" pO fOF) (GOF : FnOk P w K mg base CX0 (k + 7) fOF dOF ["cls", "load"] (spOf K C)) (bOF : Binds K dOF ["cls", "load"] []) (sj : SM.SMet K C (.type "type") "joined" fJN) (GJN : FnR P w K mg base CX0 (k + 7) fJN (spJN C))
  (prH : PropOf K C "half_cycles" p3 fPH) (GPH : FnOk P w K mg base CX0 (k + 6) fPH dPH ["self"] (spPH C)) (bPH : Binds K dPH ["self"] []) (prR : PropOf K C "rest" pR fPR) (GPR : FnOk P w K mg base CX0 (k + 6) fPR dPR ["self"] (spPR C)) (bPR : Binds K dPR ["self"] [])
  (mPG : Meth K C "changes" fPG) (GPG : FnOk P w K mg base CX0 (k + 7) fPG dPG ["self", "low", "high"] (spPG C)) (bPG : Binds K dPG ["self", "low", "high"] [])
  (fnEQ : PySem.W.findIn K (.ref C) "__eq__" = some (some (.ref fEQ))) (iEQ : PySem.W.isFn K (.ref fEQ) = true) (mO : PySem.W.mroIn K C (.type "object") = some true) (neC : PySem.W.findIn K (.ref C) "__ne__" = some (some (.builtin "object.__ne__"))) (GEQ : FnOk P w K mg base CX0 (k + 6) fEQ dEQ ["self", "other"] (spEQ C)) (bEQ : Binds K dEQ ["self", "other"] []) (mtu : mg "tuple" = none) : FnOk P w K mg base CX0 (k + 8) f fd ["text", "load", "halves"] spRR := by
  refine F.ok scRR (fun vs H Q E h => ?_) (fun cdv A outer s H vs Q E hr h => ?_)
  · obtain ⟨x, a, h, ns, xs, ds, es, rs, rfl, _⟩ := h
    rfl
  · obtain ⟨x, a, h, ns, xs, ds, es, rs, rfl, ex, hl, cn0, hb, hlen, hA, hH, pa, pe, se, hq⟩ := h
    refine ⟨_, (pss_cons (ps_par (i := 3) (j := 4) (by rfl) scRR.nd rfl rfl (by decide) rfl rfl (pa_cons (GCM.pe_cmethS (pe_glob (v := .ref C) (by rfl) gT rfl) rd cm (GPE.raw bPA .nil) hr (fun σ => passAt takes0 σ) (pa_cons (pv 0) pa_nil)) (pa_cons (ClX.pe_cmeth (pe_glob (v := .ref C) (by rfl) gT rfl) rd cmO (GOF.raw bOF .nil) hr pass0 (pa_cons (pv 1) pa_nil)) pa_nil)) (by rfl))
      (pss_cons (ps_if (PW.pt (pw_or (pt_cmpR (GN.op_neOwn GEQ hr fnEQ iEQ mO neC bEQ pass0) (pv 3) (pv 4) (nomark _)) (pw_or (pt_cmpR (op_neD hr.units) (pe_prop (pv 3) cn.cl prH GPH hr bPH .nil pass0 (by rfl)) (pe_callTy call_tuple_of (by rfl) mtu (by decide +kernel) (pa_cons (pv 2) pa_nil)) (nomark _)) (pw_or1 (pt_cmpR (op_neD hr.units) (pe_prop (pv 3) cn.cl prR GPR hr bPR .nil pass0 (by rfl)) (pe_prop (pv 4) cn.cl prR GPR hr bPR .nil pass0 (by rfl)) (nomark _)))))) (pss_one (ps_ret pe_bl)) pss_nil)
      (pss_cons (ps_for PassesOwn.never rfl (pi_list (pe_op op_cat (pe_slice sl_list (pv 2) po_none (po_some pe_int)) (pe_lst (pa_cons (pe_tup (pa_cons pe_int (pa_cons pe_int pa_nil))) (pa_cons (pe_tup (pa_cons pe_int (pa_cons pe_int pa_nil))) pa_nil))))) (pg_tup rfl (pgs_cons (pg_name (i := 5) scRR.nd rfl (.inl rfl)) (pgs_cons (pg_name (i := 6) scRR.nd rfl (.inl rfl)) pgs_nil)))
      (pss_one (ps_if (pt_cmpR op_ne (pe_meth (pv 3) cn.cl mPG GPG hr bPG .nil pass0 (pa_cons (pv 5) (pa_cons (pv 6) pa_nil))) (pe_meth (pv 4) cn.cl mPG GPG hr bPG .nil pass0 (pa_cons (pv 5) (pa_cons (pv 6) pa_nil))) (nomark _)) (pss_one (ps_ret pe_bl)) pss_nil)))
      (pss_one (ps_ret (pe_chain (GN.op_eqOwn GEQ (hr.mono (show k + 6 ≤ k + 7 by omega)) fnEQ iEQ bEQ pass0) (GN.op_eqOwn GEQ (hr.mono (show k + 6 ≤ k + 7 by omega)) fnEQ iEQ bEQ pass0) (SM.pe_smeth (pe_glob (v := .ref C) (by rfl) gT rfl) rd sj GJN hr pass0 (pa_cons (pv 3) (pa_cons (pv 4) pa_nil))) (ClX.pe_cmeth (pe_glob (v := .ref C) (by rfl) gT rfl) rd cmO (GOF.raw bOF .nil) hr pass0 (pa_cons (pe_op op_cat (pv 1) (pv 1)) pa_nil)) (SM.pe_smeth (pe_glob (v := .ref C) (by rfl) gT rfl) rd sj GJN hr pass0 (pa_cons (pv 4) (pa_cons (pv 3) pa_nil))))))))), ?_⟩
    have cok := cn_ok cn0 hb
    have cl := cn_len cn0
    have cz := cn_zz cn0
    refine ⟨rfl, .str x, rfl, x, rfl, hl, fun cs ss hpc H1 fo s1 cf => ?_, fun j hj => ?_⟩
    rotate_left
    · rw [ex, pcn_of cok] at hj; cases hj
    rw [ex, pcn_of cok] at hpc
    obtain ⟨e1, e2⟩ := Prod.mk.inj (Sum.inr.inj hpc)
    subst e1 e2
    refine ⟨rfl, .ref a, rfl, a, ns, rfl, .inl (SqL.of (s1 _ _ hA)), by omega, fun H2 y cs2 ds2 rs2 s2 ny ca run nf perm srt => ⟨_, _, rfl, ?_⟩⟩
    obtain ⟨e1, e2⟩ := cn_one rfl cn0 (⟨⟨cs2, run, perm⟩, nf, srt⟩ : Cn ns ds2 rs2)
    subst e1 e2
    have cf2 := cf.same s2
    obtain ⟨dx, k1, k2, hx⟩ := sat2 cf2
    obtain ⟨dy, k3, k4, hy⟩ := sat2 ca
    refine ⟨.ref fo, rfl, .ref y, rfl, fo, y, dx, dy, _, _, rfl, rfl, hx, hy, fo, y, ds, ds, rs, rs, rfl, cf2, ca, _, rfl, _, rfl, ?_⟩
    rw [show (true != (decide (ds = ds) && decide (rs = rs))) = false by simp]
    refine iteF ⟨.ref fo, rfl, fo, dx, _, rfl, hx, fo, ds, rs, rfl, cf2, by omega, by omega, cz, fun H3 th ws es2 s3 eth pw permw srtw => ?_⟩
    obtain rfl : es = es2 := sorted_same (pe.trans permw.symm) se srtw
    have s03 := s1.trans (s2.trans s3)
    refine ⟨.ref h, rfl, h, xs, rfl, .inl ⟨SqL.of (s03 _ _ hH), fun t nt => ?_⟩⟩
    have st := same_new nt (o := .tup xs)
    refine ⟨.tuple (dPairs es), .tuple (dPairs es), .tup (SqT.of (st _ _ eth)) (dp_pairs (pw.same st)), .tup (SqT.of upd_same) (dp_pairs ((pa.same s03).same st)), shaped_prt _, shaped_prt _, _, rfl, ?_⟩
    rw [ev_prt, decide_eq_true rfl]
    generalize upd H3 t (.tup xs) = H4 at st ⊢
    have s24 := s3.trans st
    have s04 := s03.trans st
    have cf4 := cf2.same s24
    have ca4 := ca.same s24
    have hx4 := s24 _ _ hx
    have hy4 := s24 _ _ hy
    refine iteF ⟨.ref fo, rfl, fo, dx, _, rfl, hx4, fo, ds, rs, rfl, cf4, fun t1 g1 => ⟨.ref y, rfl, y, dy, _, rfl, hy4, y, ds, rs, rfl, ca4, fun t2 g2 => ⟨.tuple (dInts rs), .tuple (dInts rs), .tup (SqT.of g1) (dp_ints _), .tup (SqT.of g2) (dp_ints _), shaped_tup _, shaped_tup _, _, rfl, ?_⟩⟩⟩
    rw [ev_tupi, decide_eq_true rfl]
    have hH4 := s04 _ _ hH
    have pa4 := pa.same s04
    have hA4 := s04 _ _ hA
    refine iteF ⟨.ref h, rfl, 3, rfl, h, xs, rfl, SqL.of hH4, fun p np => ?_⟩
    have sp := same_new np (o := .lst (cutV xs none (some 3)))
    have ep := upd_same (H := H4) (a := p) (o := .lst (cutV xs none (some 3)))
    refine ⟨by show 2 ≤ sizeLine; decide, fun t3 nt3 => ⟨by show 2 ≤ sizeLine; decide, fun t4 nt4 => ⟨by show 2 ≤ sizeLine; decide, fun l nl => ?_⟩⟩⟩
    have s5 := same_new nt3 (o := .tup [.int 0, .int 1])
    have e5 := upd_same (H := upd H4 p (.lst (cutV xs none (some 3)))) (a := t3) (o := .tup [.int 0, .int 1])
    generalize upd H4 p (.lst (cutV xs none (some 3))) = H5 at sp ep s5 e5 nt4 nl ⊢
    generalize upd H5 t3 (.tup [.int 0, .int 1]) = H6 at s5 e5 nt4 nl ⊢
    have s6 := same_new nt4 (o := .tup [.int 1, .int 3])
    have e6 := upd_same (H := H6) (a := t4) (o := .tup [.int 1, .int 3])
    generalize upd H6 t4 (.tup [.int 1, .int 3]) = H7 at s6 e6 nl ⊢
    have s7 := same_new nl (o := .lst [.ref t3, .ref t4])
    have e7 := upd_same (H := H7) (a := l) (o := .lst [.ref t3, .ref t4])
    generalize upd H7 l (.lst [.ref t3, .ref t4]) = H8 at s7 e7 ⊢
    have xc : cutV xs none (some 3) = xs.take 3 := cut_to xs 3
    have s58 := s5.trans (s6.trans s7)
    have xl : (xs.take 3).length ≤ 3 := by rw [List.length_take]; omega
    refine ⟨p, l, _, _, rfl, rfl, s58 _ _ ep, e7, by rw [xc]; show _ + 2 ≤ sizeLine; exact Nat.le_trans (show _ ≤ 5 by omega) (by decide), fun D nD => ?_⟩
    have s9 := same_new nD (o := .lst (cutV xs none (some 3) ++ [.ref t3, .ref t4]))
    have e9 := upd_same (H := H8) (a := D) (o := .lst (cutV xs none (some 3) ++ [.ref t3, .ref t4]))
    rw [xc] at *
    generalize upd H8 D (.lst (xs.take 3 ++ [.ref t3, .ref t4])) = H9 at s9 e9 ⊢
    have s49 := sp.trans (s58.trans s9)
    have pa9 : PairsAt H9 (xs.take 3 ++ [.ref t3, .ref t4]) (es.take 3 ++ [(0, 1), (1, 3)]) :=
      ((pa4.same s49).take 3).append ⟨⟨t3, rfl, (s6.trans (s7.trans s9)) _ _ e5⟩, ⟨t4, rfl, (s7.trans s9) _ _ e6⟩, trivial⟩
    have s09 := s04.trans s49
    have cf9 := cf4.same s49
    have ca9 := ca4.same s49
    have hx9 := s49 _ _ hx4
    have hy9 := s49 _ _ hy4
    refine ⟨D, rfl, ⟨_, SqL.of e9⟩, for_list (K := K) (a := D) (xs := xs.take 3 ++ [.ref t3, .ref t4]) (fun i σ Hz => Same H9 Hz ∧ ∃ r5 r6 : Option V, σ = [some (.str x), some (.ref a), some (.ref h), some (.ref fo), some (.ref y), r5, r6]) ⟨Same.refl _, _, _, rfl⟩ (fun _ _ _ _ z => SqL.of (z.1 _ _ e9)) ?_ ?_⟩
    · rintro i v σ Hz hv ⟨sz, r5, r6, rfl⟩
      obtain ⟨r, q, hr1, rfl, hq2⟩ := pr_at pa9 hv
      refine ⟨q, _, rfl, SqT.of (sz _ _ hq2), rfl, .int r.1, [.int r.2], rfl, .int r.2, [], rfl, rfl, ?_⟩
      refine ⟨.ref fo, rfl, fo, dx, _, rfl, sz _ _ hx9, rfl, .int r.1, rfl, .int r.2, rfl, fo, ds, rs, r.1, r.2, rfl, cf9.same sz, by omega, by omega, cz, fun Ha sa => ?_⟩
      refine ⟨.ref y, rfl, y, dy, _, rfl, sa _ _ (sz _ _ hy9), rfl, .int r.1, rfl, .int r.2, rfl, y, ds, rs, r.1, r.2, rfl, (ca9.same sz).same sa, by omega, by omega, cz, fun Hb sb => ⟨rfl, _, rfl, ?_⟩⟩
      rw [decide_eq_true rfl]
      exact iteF ⟨sz.trans (sa.trans sb), _, _, rfl⟩
    rintro σ Hz ⟨sz, r5, r6, rfl⟩
    have l2 := len2 cn0 cn0
    have s0z := s09.trans sz
    refine ⟨rfl, .ref fo, rfl, .ref y, rfl, [(ds, rs), (ds, rs)], ⟨⟨fo, rfl, cf9.same sz⟩, ⟨y, rfl, ca9.same sz⟩, trivial⟩, by show 2 ≤ 100; decide, by omega, by omega, fun Ha ja dj rj cj sa nja cja runj nfj permj srtj => ?_⟩
    have cnj := join2 cn0 cn0 runj nfj permj srtj
    have hAa := sa _ _ (s0z _ _ hA)
    refine ⟨rfl, .ref a, rfl, .ref a, rfl, a, a, _, _, rfl, rfl, hAa, hAa, by rw [List.length_map]; exact Nat.le_trans (show _ ≤ 200 by omega) (by decide), fun lp nlp => ?_⟩
    have slp := same_new nlp (o := .lst (ns.map V.int ++ ns.map V.int))
    have elp : (upd Ha lp (.lst (ns.map V.int ++ ns.map V.int))) lp = some (.lst ((ns ++ ns).map V.int)) := by rw [upd_same, List.map_append]
    generalize upd Ha lp (.lst (ns.map V.int ++ ns.map V.int)) = Hb at slp elp ⊢
    refine ⟨lp, ns ++ ns, rfl, .inl (SqL.of elp), by rw [List.length_append]; omega, fun Hc w cs3 ds3 rs3 sc nw cw run3 nf3 perm3 srt3 => ?_⟩
    obtain ⟨e1, e2⟩ := cn_one rfl cnj (⟨⟨cs3, run3, perm3⟩, nf3, srt3⟩ : Cn (ns ++ ns) ds3 rs3)
    subst e1 e2
    have cja2 := (cja.same slp).same sc
    obtain ⟨dxj, k5, k6, hj⟩ := sat2 cja2
    obtain ⟨dw, k7, k8, hw⟩ := sat2 cw
    refine ⟨ja, w, dxj, dw, _, _, rfl, rfl, hj, hw, ja, w, dj, dj, rj, rj, rfl, cja2, cw, _, rfl, _, rfl, ?_⟩
    rw [show (false != (decide (dj = dj) && decide (rj = rj))) = true by simp]
    refine iteT ?_
    have szc := sa.trans (slp.trans sc)
    refine ⟨rfl, .ref y, rfl, .ref fo, rfl, [(ds, rs), (ds, rs)], ⟨⟨y, rfl, (ca9.same sz).same szc⟩, ⟨fo, rfl, (cf9.same sz).same szc⟩, trivial⟩, by show 2 ≤ 100; decide, by omega, by omega, fun Hd jb dk rk ck sd njb cjb runk nfk permk srtk => ?_⟩
    have cnk := join2 cn0 cn0 runk nfk permk srtk
    obtain ⟨e1, e2⟩ := cn_one rfl cnj cnk
    subst e1 e2
    have cw2 := cw.same sd
    obtain ⟨dw2, k9, k10, hw2⟩ := sat2 cw2
    obtain ⟨djb, k11, k12, hjb⟩ := sat2 cjb
    refine ⟨w, jb, dw2, djb, _, _, rfl, rfl, hw2, hjb, w, jb, dj, dj, rj, rj, rfl, cw2, cjb, _, rfl, ?_⟩
    rw [show (false != (decide (dj = dj) && decide (rj = rj))) = true by simp]
    exact hq _ (s0z.trans (szc.trans sd))
end
end Y7R

set_option pp.maxSteps 900
/-! k07: a text changed -/
namespace Y7C2
open PySem PySem.Spec PyProof.Rows L2 KA KD PH PM RM Y7X Y7R
abbrev sCH : Stmt := topS 47
theorem scCH : FnScope ["feed", "text", "sep", "some", "at", "other", "turn", "odd", "place"] ["feed", "text"] (defScope sCH) := ⟨rfl, rfl, rfl, by decide +kernel, rfl, by decide +kernel, by decide +kernel⟩
def jl (vs : List Str) : Nat := (vs.map (·.length)).sum + vs.length
theorem jl_cons (v : Str) (vs : List Str) : jl (v :: vs) = v.length + 1 + jl vs := by
  unfold jl
  rw [List.map_cons, List.sum_cons, List.length_cons]
  omega
theorem jl_app (us vs : List Str) : jl (us ++ vs) = jl us + jl vs := by
  unfold jl
  rw [List.map_append, List.sum_append, List.length_append]
  omega
theorem join_jl {y : Str} (hy : y.length = 1) : ∀ {vs : List Str}, vs ≠ [] → (Str.join y vs).length + 1 = jl vs
  | [], h => absurd rfl h
  | [v], _ => by rw [jl_cons]; show v.length + 1 = v.length + 1 + 0; omega
  | v :: u :: vs, _ => by
    have ih := join_jl hy (vs := u :: vs) (by simp)
    rw [jl_cons, ← ih]
    show (v ++ y ++ Str.join y (u :: vs)).length + 1 = _
    rw [WN.len_app, WN.len_app, hy]
    omega
theorem tjoin_jl {y : Str} (hy : y.length = 1) (vs : List Str) : (Txt.join y vs).length ≤ jl vs := by
  rw [TL.join_eq]
  cases vs with
  | nil => exact Nat.zero_le _
  | cons v vs => have := join_jl hy (vs := v :: vs) (by simp); omega
theorem jl_mem {vs : List Str} {u : Str} (h : u ∈ vs) : u.length + 1 ≤ jl vs := by
  obtain ⟨a, b, rfl⟩ := List.append_of_mem h
  rw [jl_app, jl_cons]
  omega
theorem jl_erase : ∀ (vs : List Str) (k : Nat), jl (vs.eraseIdx k) ≤ jl vs
  | [], _ => Nat.le_refl _
  | v :: vs, 0 => by show jl vs ≤ _; rw [jl_cons]; omega
  | v :: vs, k + 1 => by
    have := jl_erase vs k
    show jl (v :: vs.eraseIdx k) ≤ _
    rw [jl_cons, jl_cons]; omega
theorem jl_ins (vs : List Str) (i : Nat) (u : Str) : jl (vs.take i ++ [u] ++ vs.drop i) = jl vs + (u.length + 1) := by
  have e : jl vs = jl (vs.take i) + jl (vs.drop i) := by rw [← jl_app, List.take_append_drop]
  rw [jl_app, jl_app, e, jl_cons]
  show _ + (_ + 1 + 0) + _ = _
  omega
theorem jl_set : ∀ (vs : List Str) (k : Nat) (u : Str), jl (vs.set k u) ≤ jl vs + u.length
  | [], _, _ => Nat.le_add_right _ _
  | v :: vs, 0, u => by show jl (u :: vs) ≤ _; rw [jl_cons, jl_cons]; omega
  | v :: vs, k + 1, u => by
    have := jl_set vs k u
    show jl (v :: vs.set k u) ≤ _
    rw [jl_cons, jl_cons]; omega
theorem asc_join {y : Str} {vs : List Str} (h : Asc y) (g : ∀ u ∈ vs, Asc u) : Asc (Txt.join y vs) := fun c hc => by
  rw [TL.join_eq, TL.tl_join] at hc
  rcases NX.mem_joinL hc with k | ⟨p, hp, k⟩
  · exact h c k
  · obtain ⟨u, hu, rfl⟩ := List.mem_map.mp hp
    exact g u hu c k
theorem asc_app {x y : Str} (h : Asc x) (g : Asc y) : Asc (x ++ y) := fun c hc => by
  rw [TL.tl_append] at hc
  exact (List.mem_append.mp hc).elim (h c) (g c)
theorem asc_cut {x : Str} (h : Asc x) (lo hi : Option Int) : Asc (cutS x lo hi) := fun c hc => h c (by
  have h2 : c ∈ (x.cps.toList.drop (HT.sIx x.length 0 lo)).take (HT.sIx x.length x.length hi - HT.sIx x.length 0 lo) := hc
  exact List.mem_of_mem_drop (List.mem_of_mem_take h2))
def ODD : List Str := ["", "none", "0", "-1", "3", "0:1", "1:1", "2:1", "-5:5", "01", "-0", "+1", "1:2:3", "x", "1000000001", "0:3 1:2", "1_0", "0:1_0"]
theorem odd_ok : ∀ u ∈ ODD, u.length ≤ 12 ∧ Asc u := by
  have : (ODD.all fun u => decide (u.length ≤ 12) && u.cps.all (· < 128)) = true := by decide +kernel
  intro u hu
  have h := List.all_eq_true.mp this u hu
  rw [Bool.and_eq_true, decide_eq_true_eq] at h
  refine ⟨h.1, fun c hc => ?_⟩
  have h2 := h.2
  rw [← Array.all_toList, List.all_eq_true] at h2
  exact of_decide_eq_true (h2 c hc)
theorem erase_map {α β : Type} (g : α → β) : ∀ (l : List α) (k : Nat), (l.map g).eraseIdx k = (l.eraseIdx k).map g
  | [], _ => rfl
  | _ :: _, 0 => rfl
  | a :: l, k + 1 => congrArg (g a :: ·) (erase_map g l k)
theorem pk_asc : Asc (" :\n-0139nx._N" : Str) := fun c hc => by
  have : ((" :\n-0139nx._N" : Str).cps.all (· < 128)) = true := by decide +kernel
  rw [← Array.all_toList, List.all_eq_true] at this
  exact of_decide_eq_true (this c hc)
theorem len_one (c : Nat) : ((⟨#[c]⟩ : Str)).length = 1 := rfl
section
variable {P : Program} {w : World} {K : PySem.W.Frag} {mg : Str → Option Value} {base : Heap}
def spPickS : Sp := fun vs H Q _ => ∃ (f : Addr) (z : Str), vs = [.ref f, .str z] ∧ 0 < z.length ∧ z.length ≤ 1000 ∧ FeedAt H f ∧ ∀ H' c, c ∈ TL.tl z → Ch f H H' → FeedAt H' f → Q (.str ⟨#[c]⟩) H'
theorem ok_pickS {f fT : Addr} {fd fdT : FuncData} {k : Nat} (F : Fun K "_law_pick" "_law_pick" sPick f fd) (FT : Fun K "_law_take" "_law_take" sTake fT fdT) (gT : mg "_law_take" = some (.ref fT)) (bT : Binds K fdT ["feed", "many"] []) (ml : mg "len" = none) :
    FnOk P w K mg base CX0 (k + 2) f fd ["feed", "some"] spPickS := by
  have GT : FnOk P w K mg base CX0 (k + 1) fT fdT ["feed", "many"] spTake := ok_take FT
  refine F.ok scPick (fun vs H Q E h => ?_) (fun cdv A outer s H vs Q E hr h => ?_)
  · obtain ⟨a, z, rfl, _⟩ := h
    rfl
  · obtain ⟨f, z, rfl, l0, l1, hf, q⟩ := h
    refine ⟨_, pss_one (ps_ret (pe_ix ix_str (pv 1) (pe_call GT hr (by rfl) gT FT.kp bT .nil pass0 (pa_cons (pv 0) (pa_cons (pe_callB call_len_str (by rfl) ml PySem.boot_len (pa_cons (pv 1) pa_nil)) pa_nil))) (fun _ _ => rfl))), ?_⟩
    have hz : z.length ≤ sizeLine := Nat.le_trans l1 (by decide)
    refine ⟨.str z, rfl, .ref f, rfl, .str z, rfl, z, rfl, hz, f, _, rfl, by omega, by omega, hf, fun H' r ch fe r0 r1 => ?_⟩
    obtain ⟨j, rfl⟩ : ∃ j : Nat, r = (j : Int) := ⟨r.toNat, by omega⟩
    have hj : j < z.cps.toList.length := by have := TL.len_tl z; show j < (TL.tl z).length; omega
    exact ⟨z, _, z.cps.toList[j], rfl, rfl, hz, atI_nat (List.getElem?_eq_getElem hj), q H' _ (List.getElem_mem hj) ch fe⟩
def spCH : Sp := fun vs H Q _ => ∃ (f : Addr) (x : Str), vs = [.ref f, .str x] ∧ FeedAt H f ∧ x.length ≤ 4000 ∧ Asc x ∧ ∀ H' y, Ch f H H' → FeedAt H' f → y.length ≤ 3 * x.length + 60 → Asc y → Q (.str y) H'
theorem ok_CH {f : Addr} {fd : FuncData} {fTA : Addr} {dTA : FuncData} {fPI : Addr} {dPI : FuncData} {k : Nat} (F : Fun K "_law_changed" "_law_changed" sCH f fd) (GTA : FnOk P w K mg base CX0 (k + 1) fTA dTA ["feed", "many"] spTake) (gTA : mg "_law_take" = some (.ref fTA)) (kTA : PySem.W.keepIn K (.ref fTA) = true) (bTA : Binds K dTA ["feed", "many"] []) (GPI : FnOk P w K mg base CX0 (k + 2) fPI dPI ["feed", "some"] (spPick K)) (gPI : mg "_law_pick" = some (.ref fPI)) (kPI : PySem.W.keepIn K (.ref fPI) = true) (bPI : Binds K dPI ["feed", "some"] []) (GPS : FnOk P w K mg base CX0 (k + 2) fPI dPI ["feed", "some"] spPickS) (mlen : mg "len" = none) : FnOk P w K mg base CX0 (k + 3) f fd ["feed", "text"] spCH := by
  refine F.ok scCH (fun vs H Q E h => ?_) (fun cdv A outer s H vs Q E hr h => ?_)
  · obtain ⟨f, x, rfl, _⟩ := h
    rfl
  · obtain ⟨f, x, rfl, fe, hl, hasc, hq⟩ := h
    refine ⟨_, (pss_cons (ps_set (i := 2) scCH.nd rfl (.inl rfl) (pe_call (GPI.mono (show k + 2 ≤ k + 2 by omega)) hr (by rfl) gPI kPI bPI .nil pass0 (pa_cons (pv 0) (pa_cons (pe_lst (pa_cons pe_str (pa_cons pe_str (pa_cons pe_str (pa_cons pe_str pa_nil))))) pa_nil))))
      (pss_cons (ps_set (i := 3) scCH.nd rfl (.inl rfl) (pe_split (pv 1) (pv 2)))
      (pss_cons (ps_par (i := 4) (j := 5) (by rfl) scCH.nd rfl rfl (by decide) rfl rfl (pa_cons (pe_call (GTA.mono (show k + 1 ≤ k + 2 by omega)) hr (by rfl) gTA kTA bTA .nil pass0 (pa_cons (pv 0) (pa_cons (pe_callB call_len_seq (by rfl) mlen PySem.boot_len (pa_cons (pv 3) pa_nil)) pa_nil))) (pa_cons (pe_call (GTA.mono (show k + 1 ≤ k + 2 by omega)) hr (by rfl) gTA kTA bTA .nil pass0 (pa_cons (pv 0) (pa_cons (pe_callB call_len_seq (by rfl) mlen PySem.boot_len (pa_cons (pv 3) pa_nil)) pa_nil))) pa_nil)) (by rfl))
      (pss_cons (ps_set (i := 6) scCH.nd rfl (.inl rfl) (pe_call (GTA.mono (show k + 1 ≤ k + 2 by omega)) hr (by rfl) gTA kTA bTA .nil pass0 (pa_cons (pv 0) (pa_cons pe_int pa_nil))))
      (pss_cons (ps_set (i := 7) scCH.nd rfl (.inl rfl) (pe_lst (pa_cons pe_str (pa_cons pe_str (pa_cons pe_str (pa_cons pe_str (pa_cons pe_str (pa_cons pe_str (pa_cons pe_str (pa_cons pe_str (pa_cons pe_str (pa_cons pe_str (pa_cons pe_str (pa_cons pe_str (pa_cons pe_str (pa_cons pe_str pa_nil))))))))))))))))
      (pss_cons (ps_set (i := 7) scCH.nd rfl (.inl rfl) (pe_op op_cat (pv 7) (pe_lst (pa_cons pe_str (pa_cons pe_str (pa_cons pe_str (pa_cons pe_str pa_nil)))))))
      (pss_cons (ps_if (pt_cmpR op_eq (pv 6) pe_int (nomark _)) (pss_one (ps_expr (pe_bm PySem.F.plainAttrs_list PySem.F.slot_list_pop PySem.F.type_list_pop mt_popAt (pv 3) (pa_cons (pv 4) pa_nil)))) (pss_one (ps_if (pt_cmpR op_eq (pv 6) pe_int (nomark _)) (pss_one (ps_expr (pe_bm PySem.F.plainAttrs_list PySem.F.slot_list_insert PySem.F.type_list_insert mt_insert (pv 3) (pa_cons (pv 5) (pa_cons (pe_ix ix_list (pv 3) (pv 4) (fun _ _ => rfl)) pa_nil))))) (pss_one (ps_if (pt_cmpR op_eq (pv 6) pe_int (nomark _)) (pss_one (ps_asg (pe_tup (pa_cons (pe_ix ix_list (pv 3) (pv 5) (fun _ _ => rfl)) (pa_cons (pe_ix ix_list (pv 3) (pv 4) (fun _ _ => rfl)) pa_nil))) (pg_tup rfl (pgs_cons (pg_sub (pv 3) (pv 4) set_list) (pgs_cons (pg_sub (pv 3) (pv 5) set_list) pgs_nil))))) (pss_one (ps_if (pt_cmpR op_eq (pv 6) pe_int (nomark _)) (pss_one (ps_asg (pe_call (GPI.mono (show k + 2 ≤ k + 2 by omega)) hr (by rfl) gPI kPI bPI .nil pass0 (pa_cons (pv 0) (pa_cons (pv 7) pa_nil))) (pg_sub (pv 3) (pv 4) set_list))) (pss_one (ps_if (pt_cmpR op_eq (pv 6) pe_int (nomark _)) (pss_one (ps_expr (pe_bm PySem.F.plainAttrs_list PySem.F.slot_list_insert PySem.F.type_list_insert mt_insert (pv 3) (pa_cons (pv 4) (pa_cons (pe_call (GPI.mono (show k + 2 ≤ k + 2 by omega)) hr (by rfl) gPI kPI bPI .nil pass0 (pa_cons (pv 0) (pa_cons (pv 7) pa_nil))) pa_nil))))) (pss_cons (ps_set (i := 8) scCH.nd rfl (.inl rfl) (pe_call (GTA.mono (show k + 1 ≤ k + 2 by omega)) hr (by rfl) gTA kTA bTA .nil pass0 (pa_cons (pv 0) (pa_cons (pe_op op_add (pe_callB call_len_str (by rfl) mlen PySem.boot_len (pa_cons (pv 1) pa_nil)) pe_int) pa_nil))))
      (pss_one (ps_ret (pe_op op_add_str (pe_op op_add_str (pe_slice sl_str (pv 1) po_none (po_some (pv 8))) (pe_call (GPS.mono (show k + 2 ≤ k + 2 by omega)) hr (by rfl) gPI kPI bPI .nil pass0 (pa_cons (pv 0) (pa_cons pe_str pa_nil)))) (pe_slice sl_str (pv 1) (po_some (pe_op op_add (pv 8) (pe_call (GTA.mono (show k + 1 ≤ k + 2 by omega)) hr (by rfl) gTA kTA bTA .nil pass0 (pa_cons (pv 0) (pa_cons pe_int pa_nil))))) po_none))))))))))))))
      (pss_one (ps_ret (pe_join (pv 2) (pv 3))))))))))), ?_⟩
    refine ⟨.ref f, rfl, by show 4 ≤ sizeLine; decide, fun l nl => ?_⟩
    have sl := same_new (o := .lst [.str "\n", .str " ", .str " ", .str ":"]) nl
    refine ⟨f, l, _, rfl, fe.ne nl, SqL.of upd_same, by show 0 < 4; decide, by show 4 ≤ 1000; decide, fe.same sl, fun H1 j v hv c1 fe1 => ?_⟩
    obtain ⟨sp, s_, rfl, esp, hk, hlen⟩ : ∃ (sp : Str) (s_ : Nat), v = .str sp ∧ TL.tl sp = [s_] ∧ sp.cps.all (· < 256) = true ∧ s_ < 128 := by
      match j, hv with
      | 0, hv => exact ⟨"\n", 10, (Option.some.inj hv).symm, by decide +kernel, by decide +kernel, by decide⟩
      | 1, hv => exact ⟨" ", 32, (Option.some.inj hv).symm, by decide +kernel, by decide +kernel, by decide⟩
      | 2, hv => exact ⟨" ", 32, (Option.some.inj hv).symm, by decide +kernel, by decide +kernel, by decide⟩
      | 3, hv => exact ⟨":", 58, (Option.some.inj hv).symm, by decide +kernel, by decide +kernel, by decide⟩
      | n + 4, hv => simp at hv
    have l1 : sp.length = 1 := by rw [TL.len_tl, esp]; rfl
    have asp : Asc sp := fun c hc => by rw [esp, List.mem_singleton] at hc; rw [hc]; exact hlen
    have c01 : Ch f H H1 := (Ch.of_same sl).trans c1
    clear c1 sl nl
    refine ⟨.str x, rfl, ⟨_, rfl⟩, .str sp, rfl, x, sp, rfl, rfl, by rw [l1]; rfl, Nat.le_trans (Nat.add_le_add_right hl 2) (by decide), fun S nS => ?_⟩
    have aw := split_asc esp hk hasc
    have hjl : jl (Txt.split x sp) = x.length + 1 := by
      have hne : Txt.split x sp ≠ [] := fun z => NY.spl_ne s_ (TL.tl x) [] (by rw [← NY.split_map esp hk, z]; rfl)
      rw [← join_jl l1 hne, ← TL.join_eq, NY.join_split esp hk]
    have hpos : 0 < (Txt.split x sp).length := by
      cases k : Txt.split x sp with
      | nil => rw [k] at hjl; exact absurd hjl (by show ¬ 0 = _; omega)
      | cons _ _ => exact Nat.succ_pos _
    have hcnt := NY.split_count esp hk x
    have nSf : S ≠ f := fe1.ne nS
    have nS0 : H S = none := c01.free nSf nS
    have sS := same_new (o := .lst ((Txt.split x sp).map V.str)) nS
    have eS := upd_same (H := H1) (a := S) (o := .lst ((Txt.split x sp).map V.str))
    have fe2 := fe1.same sS
    have c02 := c01.trans (Ch.of_same sS)
    generalize upd H1 S (.lst ((Txt.split x sp).map V.str)) = H2 at eS fe2 c02 ⊢
    generalize Txt.split x sp = ws at aw hjl hpos hcnt eS ⊢
    clear sS c01 fe1 nS
    have lws : (ws.map V.str).length = ws.length := List.length_map _
    refine ⟨.ref f, rfl, .ref S, rfl, S, _, rfl, .inl (SqL.of eS), f, _, rfl, by omega, by omega, fe2, fun H3 at_ c3 fe3 a0 a1 => ?_⟩
    have eS3 := c3 _ _ nSf eS
    refine ⟨.ref f, rfl, .ref S, rfl, S, _, rfl, .inl (SqL.of eS3), f, _, rfl, by omega, by omega, fe3, fun H4 ot c4 fe4 o0 o1 => ?_⟩
    have eS4 := c4 _ _ nSf eS3
    refine ⟨.int at_, .int ot, rfl, .ref f, rfl, f, 6, rfl, by decide, by decide, fe4, fun H5 tn c5 fe5 t0 t6 => ?_⟩
    have eS5 := c5 _ _ nSf eS4
    have c05 := c02.trans (c3.trans (c4.trans c5))
    clear c02 c3 c4 c5 eS eS3 eS4 fe2 fe3 fe4
    obtain ⟨i, rfl⟩ : ∃ i : Nat, at_ = (i : Int) := ⟨at_.toNat, by omega⟩
    obtain ⟨j, rfl⟩ : ∃ j : Nat, ot = (j : Int) := ⟨ot.toNat, by omega⟩
    have hi : i < ws.length := by omega
    have hj : j < ws.length := by omega
    -- odd
    refine ⟨by show 14 ≤ sizeLine; decide, fun o1 no1 => ?_⟩
    have so1 := same_new (o := .lst ((ODD.take 14).map V.str)) no1
    have eo1 := upd_same (H := H5) (a := o1) (o := .lst ((ODD.take 14).map V.str))
    refine ⟨.ref o1, rfl, by show 4 ≤ sizeLine; decide, fun o2 no2 => ?_⟩
    have so2 := same_new (o := .lst ((ODD.drop 14).map V.str)) no2
    have eo1b := so2 _ _ eo1
    have eo2 := upd_same (H := upd H5 o1 (.lst ((ODD.take 14).map V.str))) (a := o2) (o := .lst ((ODD.drop 14).map V.str))
    refine ⟨o1, o2, (ODD.take 14).map V.str, (ODD.drop 14).map V.str, rfl, rfl, eo1b, eo2, by show 14 + 4 ≤ sizeLine; decide, fun od nod => ?_⟩
    have so3 := same_new (o := .lst (ODD.map V.str)) nod
    have eod := upd_same (H := upd (upd H5 o1 (.lst ((ODD.take 14).map V.str))) o2 (.lst ((ODD.drop 14).map V.str))) (a := od) (o := .lst (ODD.map V.str))
    have sO := so1.trans (so2.trans so3)
    have fe6 := fe5.same sO
    have eS6 := sO _ _ eS5
    have c06 := c05.trans (Ch.of_same sO)
    have nodf : od ≠ f := ((fe5.same so1).same so2).ne nod
    clear so1 so2 so3 eo1 eo1b eo2 sO fe5 eS5 c05
    have bd : ∀ vs : List Str, jl vs ≤ 3 * x.length + 60 → (vs.map (·.length)).sum + vs.length * sp.length ≤ 16777216 := fun vs h => by
      rw [l1, Nat.mul_one]
      have : jl vs = (vs.map (·.length)).sum + vs.length := rfl
      omega
    have sx : ∀ {n : Nat} {k : Nat}, k < n → n ≤ 5000 → PySem.seqIndex? ((k : Nat) : Int) n = some k := fun {n k} h _ => (ixN_seq (n := n) (i := (k : Int)) (j := k) (by unfold ixN; rw [if_pos (by omega), if_pos (by omega)]; rfl)).1
    have nx : ∀ {n : Nat} {k : Nat}, k < n → ixN n ((k : Nat) : Int) = some k := fun {n k} h => by unfold ixN; rw [if_pos (by omega), if_pos (by omega)]; rfl
    have gi : ws[i]? = some ws[i] := List.getElem?_eq_getElem hi
    have gj : ws[j]? = some ws[j] := List.getElem?_eq_getElem hj
    have giv : (ws.map V.str)[i]? = some (.str ws[i]) := by rw [List.getElem?_map, gi]; rfl
    have gjv : (ws.map V.str)[j]? = some (.str ws[j]) := by rw [List.getElem?_map, gj]; rfl
    have ai := aw ws[i] (List.getElem_mem hi)
    have aj := aw ws[j] (List.getElem_mem hj)
    have li : ws[i].length ≤ x.length := by have := jl_mem (List.getElem_mem hi); omega
    have lj : ws[j].length ≤ x.length := by have := jl_mem (List.getElem_mem hj); omega
    have l5 : (ws.map V.str).length ≤ 5000 := by omega
    have put : ∀ {Hy : Hp} {vs : List V}, Ch f H Hy → Ch f H (upd Hy S (.lst vs)) := fun c => Ch.again nS0 c
    refine ⟨.int tn, rfl, rfl, _, rfl, ?_⟩
    by_cases t0' : tn = 0
    · rw [decide_eq_true (congrArg V.int t0')]
      refine iteT ⟨.ref S, rfl, .inl ⟨rfl, _, SqL.of eS6⟩, .int (i : Int), rfl, S, _, (i : Int), i, .str ws[i], rfl, rfl, eS6, by omega, by omega, sx (by omega) l5, giv, ?_⟩
      have em : (ws.map V.str).eraseIdx i = (ws.eraseIdx i).map V.str := erase_map _ _ _
      have hb : jl (ws.eraseIdx i) ≤ 3 * x.length + 60 := by have := jl_erase ws i; omega
      refine ⟨.str sp, rfl, ⟨_, rfl⟩, .ref S, rfl, sp, S, ws.eraseIdx i, rfl, rfl, .inl (SqL.of (by rw [upd_same, em])), bd _ hb, hq _ _ (put c06) (fe6.upd nSf) (Nat.le_trans (tjoin_jl l1 _) hb) (asc_join asp fun u hu => aw u (List.mem_of_mem_eraseIdx hu))⟩
    rw [decide_eq_false (show ¬ V.int tn = V.int 0 from fun z => t0' (V.int.inj z))]
    refine iteF ⟨.int tn, rfl, rfl, _, rfl, ?_⟩
    by_cases t1' : tn = 1
    · rw [decide_eq_true (congrArg V.int t1')]
      refine iteT ⟨.ref S, rfl, .inl ⟨rfl, _, SqL.of eS6⟩, .int (j : Int), rfl, .ref S, rfl, .int (i : Int), rfl, S, _, _, .str ws[i], rfl, rfl, SqL.of eS6, atI_nat giv, S, _, (j : Int), .str ws[i], rfl, rfl, eS6, Nat.lt_of_le_of_lt l5 (by decide), by omega, by omega, ?_⟩
      have em : (ws.map V.str).take (j : Int).toNat ++ [V.str ws[i]] ++ (ws.map V.str).drop (j : Int).toNat = (ws.take j ++ [ws[i]] ++ ws.drop j).map V.str := by
        rw [Int.toNat_natCast, List.map_append, List.map_append, List.map_take, List.map_drop]
        rfl
      have hb : jl (ws.take j ++ [ws[i]] ++ ws.drop j) ≤ 3 * x.length + 60 := by rw [jl_ins]; omega
      refine ⟨.str sp, rfl, ⟨_, rfl⟩, .ref S, rfl, sp, S, _, rfl, rfl, .inl (SqL.of (by rw [upd_same, em])), bd _ hb, hq _ _ (put c06) (fe6.upd nSf) (Nat.le_trans (tjoin_jl l1 _) hb) (asc_join asp fun u hu => ?_)⟩
      rcases List.mem_append.mp hu with k | k
      · rcases List.mem_append.mp k with k | k
        · exact aw u (List.mem_of_mem_take k)
        · rw [List.mem_singleton.mp k]; exact ai
      · exact aw u (List.mem_of_mem_drop k)
    rw [decide_eq_false (show ¬ V.int tn = V.int 1 from fun z => t1' (V.int.inj z))]
    refine iteF ⟨.int tn, rfl, rfl, _, rfl, ?_⟩
    by_cases t2' : tn = 2
    · rw [decide_eq_true (congrArg V.int t2')]
      refine iteT ⟨.ref S, rfl, .int (j : Int), rfl, S, _, _, .str ws[j], rfl, rfl, SqL.of eS6, atI_nat gjv, .ref S, rfl, .int (i : Int), rfl, S, _, _, .str ws[i], rfl, rfl, SqL.of eS6, atI_nat giv, by show 2 ≤ sizeLine; decide, fun t nt => ?_⟩
      have st := same_new (o := .tup [.str ws[j], .str ws[i]]) nt
      have eS7 := st _ _ eS6
      refine ⟨t, _, rfl, SqT.of upd_same, rfl, .str ws[j], [.str ws[i]], rfl, .ref S, rfl, .int (i : Int), rfl, S, ws.map V.str, _, i, rfl, rfl, eS7, nx (by omega), .str ws[i], [], rfl, .ref S, rfl, .int (j : Int), rfl, S, _, _, j, rfl, rfl, upd_same, nx (by rw [List.length_set]; omega), rfl, ?_⟩
      have em : ((ws.map V.str).set i (.str ws[j])).set j (.str ws[i]) = ((ws.set i ws[j]).set j ws[i]).map V.str := by rw [List.map_set, List.map_set]
      have hb : jl ((ws.set i ws[j]).set j ws[i]) ≤ 3 * x.length + 60 := by
        have h1 := jl_set (ws.set i ws[j]) j ws[i]
        have h2 := jl_set ws i ws[j]
        omega
      refine ⟨.str sp, rfl, ⟨_, rfl⟩, .ref S, rfl, sp, S, _, rfl, rfl, .inl (SqL.of (by rw [upd_same, em])), bd _ hb, hq _ _ (put (put (c06.trans (Ch.of_same st)))) (((fe6.same st).upd nSf).upd nSf) (Nat.le_trans (tjoin_jl l1 _) hb) (asc_join asp fun u hu => ?_)⟩
      rcases List.mem_or_eq_of_mem_set hu with k | k
      · rcases List.mem_or_eq_of_mem_set k with k | k
        · exact aw u k
        · rw [k]; exact aj
      · rw [k]; exact ai
    rw [decide_eq_false (show ¬ V.int tn = V.int 2 from fun z => t2' (V.int.inj z))]
    refine iteF ⟨.int tn, rfl, rfl, _, rfl, ?_⟩
    by_cases t3' : tn = 3
    · rw [decide_eq_true (congrArg V.int t3')]
      refine iteT ⟨.ref f, rfl, .ref od, rfl, f, od, _, rfl, nodf, SqL.of eod, by show 0 < 18; decide, by show 18 ≤ 1000; decide, fe6, fun H7 m v hv c7 fe7 => ?_⟩
      rw [List.getElem?_map] at hv
      obtain ⟨u, hu0, rfl⟩ := Option.map_eq_some_iff.mp hv
      obtain ⟨ou1, ou2⟩ := odd_ok u (List.mem_of_getElem? hu0)
      refine ⟨.ref S, rfl, .int (i : Int), rfl, S, ws.map V.str, _, i, rfl, rfl, c7 _ _ nSf eS6, nx (by omega), ?_⟩
      have em : (ws.map V.str).set i (.str u) = (ws.set i u).map V.str := by rw [List.map_set]
      have hb : jl (ws.set i u) ≤ 3 * x.length + 60 := by have h2 := jl_set ws i u; omega
      refine ⟨.str sp, rfl, ⟨_, rfl⟩, .ref S, rfl, sp, S, _, rfl, rfl, .inl (SqL.of (by rw [upd_same, em])), bd _ hb, hq _ _ (put (c06.trans c7)) (fe7.upd nSf) (Nat.le_trans (tjoin_jl l1 _) hb) (asc_join asp fun z hz => ?_)⟩
      rcases List.mem_or_eq_of_mem_set hz with k | k
      · exact aw z k
      · rw [k]; exact ou2
    rw [decide_eq_false (show ¬ V.int tn = V.int 3 from fun z => t3' (V.int.inj z))]
    refine iteF ⟨.int tn, rfl, rfl, _, rfl, ?_⟩
    by_cases t4' : tn = 4
    · rw [decide_eq_true (congrArg V.int t4')]
      refine iteT ⟨.ref S, rfl, .inl ⟨rfl, _, SqL.of eS6⟩, .int (i : Int), rfl, .ref f, rfl, .ref od, rfl, f, od, _, rfl, nodf, SqL.of eod, by show 0 < 18; decide, by show 18 ≤ 1000; decide, fe6, fun H7 m v hv c7 fe7 => ?_⟩
      rw [List.getElem?_map] at hv
      obtain ⟨u, hu0, rfl⟩ := Option.map_eq_some_iff.mp hv
      obtain ⟨ou1, ou2⟩ := odd_ok u (List.mem_of_getElem? hu0)
      refine ⟨S, _, (i : Int), .str u, rfl, rfl, c7 _ _ nSf eS6, Nat.lt_of_le_of_lt l5 (by decide), by omega, by omega, ?_⟩
      have em : (ws.map V.str).take (i : Int).toNat ++ [V.str u] ++ (ws.map V.str).drop (i : Int).toNat = (ws.take i ++ [u] ++ ws.drop i).map V.str := by
        rw [Int.toNat_natCast, List.map_append, List.map_append, List.map_take, List.map_drop]
        rfl
      have hb : jl (ws.take i ++ [u] ++ ws.drop i) ≤ 3 * x.length + 60 := by rw [jl_ins]; omega
      refine ⟨.str sp, rfl, ⟨_, rfl⟩, .ref S, rfl, sp, S, _, rfl, rfl, .inl (SqL.of (by rw [upd_same, em])), bd _ hb, hq _ _ (put (c06.trans c7)) (fe7.upd nSf) (Nat.le_trans (tjoin_jl l1 _) hb) (asc_join asp fun z hz => ?_)⟩
      rcases List.mem_append.mp hz with k | k
      · rcases List.mem_append.mp k with k | k
        · exact aw z (List.mem_of_mem_take k)
        · rw [List.mem_singleton.mp k]; exact ou2
      · exact aw z (List.mem_of_mem_drop k)
    rw [decide_eq_false (show ¬ V.int tn = V.int 4 from fun z => t4' (V.int.inj z))]
    have hz : x.length ≤ sizeLine := Nat.le_trans hl (by decide)
    refine iteF ⟨.ref f, rfl, .str x, rfl, x, rfl, hz, _, 1, rfl, rfl, f, _, rfl, by omega, by omega, fe6, fun H7 pl c7 fe7 p0 p1 => ?_⟩
    refine ⟨.str x, rfl, .int pl, rfl, pl, rfl, x, rfl, hz, .ref f, rfl, f, " :\n-0139nx._N", rfl, by decide +kernel, by decide +kernel, fe7, fun H8 c hc c8 fe8 => ?_⟩
    have q1 := cutS_length x none (some pl)
    refine ⟨_, ⟨#[c]⟩, rfl, rfl, by rw [len_one]; exact Nat.le_trans (show _ ≤ 5000 by omega) (by decide), .str x, rfl, .int pl, rfl, .ref f, rfl, f, 2, rfl, by decide, by decide, fe8, fun H9 tk c9 fe9 k0 k1 => ⟨pl, tk, rfl, rfl, _, rfl, x, rfl, hz, ?_⟩⟩
    have q2 := cutS_length x (some (pl + tk)) none
    have hlen3 : ((cutS x none (some pl) ++ (⟨#[c]⟩ : Str)) ++ cutS x (some (pl + tk)) none).length ≤ 2 * x.length + 1 := by
      rw [WN.len_app, WN.len_app, len_one]; omega
    refine ⟨_, _, rfl, rfl, by rw [WN.len_app, len_one]; exact Nat.le_trans (show _ ≤ 9000 by omega) (by decide), hq _ _ (c06.trans (c7.trans (c8.trans c9))) fe9 (by omega) ?_⟩
    exact asc_app (asc_app (asc_cut hasc _ _) (fun d hd => by rw [show d = c from List.mem_singleton.mp hd]; exact pk_asc c hc)) (asc_cut hasc _ _)
end
end Y7C2

/-! text * int; repr of a text or an int -/
namespace GRS
open PySem PySem.Spec PyProof.Rows L2
def repS (x : Str) (n : Nat) : Str := ⟨(List.replicate n x.cps).foldl (· ++ ·) #[]⟩
theorem fold_rep (a : Array Nat) : ∀ (n : Nat) (acc : Array Nat), ((List.replicate n a).foldl (· ++ ·) acc).toList = acc.toList ++ (List.replicate n a.toList).flatten
  | 0, acc => by simp
  | n + 1, acc => by
    rw [List.replicate_succ, List.foldl_cons, fold_rep a n, List.replicate_succ, List.flatten_cons, Array.toList_append, List.append_assoc]
theorem repS_tl (x : Str) (n : Nat) : TL.tl (repS x n) = (List.replicate n (TL.tl x)).flatten := by
  show ((List.replicate n x.cps).foldl (· ++ ·) #[]).toList = _
  rw [fold_rep]
  rfl
theorem flat_len (l : List Nat) : ∀ n, (List.replicate n l).flatten.length = n * l.length
  | 0 => by simp
  | n + 1 => by rw [List.replicate_succ, List.flatten_cons, List.length_append, flat_len l n, Nat.succ_mul, Nat.add_comm]
theorem repS_len (x : Str) (n : Nat) : (repS x n).length = n * x.length := by
  rw [TL.len_tl, repS_tl, flat_len, ← TL.len_tl]
theorem repS_mem {x : Str} {n c : Nat} (h : c ∈ TL.tl (repS x n)) : c ∈ TL.tl x := by
  rw [repS_tl] at h
  obtain ⟨l, hl, hc⟩ := List.mem_flatten.mp h
  rw [(List.mem_replicate.mp hl).2] at hc
  exact hc
section
variable {X : Cx}
def rRepS : R2 := fun x y H Q => ∃ (z : Str) (n : Int), x = .str z ∧ y = .int n ∧ 2 ≤ n ∧ n ≤ 10000 ∧ 0 < z.length ∧ z.length ≤ 100 ∧ Q (.str (repS z n.toNat)) H
theorem op_repS : OpR X (binaryOp .Mult) rRepS := by
  intro pins s σ H x y v u Q I rx ry h
  obtain ⟨z, n, rfl, rfl, h1, h2, h3, h4, q⟩ := h
  obtain ⟨t, rfl⟩ := rx
  obtain ⟨t', rfl⟩ := ry
  have hl : (repS z n.toNat).length ≤ 1000000 := by
    rw [repS_len]
    exact Nat.le_trans (Nat.mul_le_mul (show n.toNat ≤ 10000 by omega) h4) (by decide)
  have hz : (repS z n.toNat).length ≤ sizeLine := Nat.le_trans hl (by decide)
  have e1 : (n == 1 || z.length == 0) = false := by
    rw [beq_eq_false_iff_ne.mpr (show n ≠ 1 by omega), beq_eq_false_iff_ne.mpr (show z.length ≠ 0 by omega)]
    rfl
  refine PySem.P.mul_str (by rw [decide_eq_false (by omega), decide_eq_false (by omega)]; rfl) (fun _ _ => ?_) (fun _ _ => ?_) ?_
  · have : (100 : Int) ≤ (2 ^ 63 - 1) / n := Int.le_ediv_of_mul_le (by omega) (by omega)
    omega
  · have := repS_len z n.toNat
    unfold PySem.Builtin.Str.tooLong
    exact decide_eq_false (by rw [Nat.mul_comm, ← this]; omega)
  · rw [if_neg (by omega), e1]
    exact ⟨hz, .str _, H, I.tok _, ⟨_, rfl⟩, q⟩
/-- the text that repr makes of a text or an int -/
def shw : V → Str
  | .str x => reprText x
  | .int i => toString i
  | _ => ""
def rReprT : List V → Hp → VK → Prop := fun vs H Q => ∃ v, vs = [v] ∧ ((∃ x, v = .str x ∧ x.length ≤ 100000 ∧ ∀ c ∈ TL.tl x, c < 128) ∨ ∃ i : Int, v = .int i ∧ i.natAbs.log2 < 1920) ∧ Q (.str (shw v)) H
theorem cr_reprT : CallR X (.builtin "repr") rReprT := by
  intro pins s σ H vs us Q I r h
  obtain ⟨v, rfl, hv, q⟩ := h
  cases r with
  | cons ru rt =>
    cases rt
    rcases hv with ⟨x, rfl, hl, ha⟩ | ⟨i, rfl, hi⟩
    · obtain ⟨t, rfl⟩ := ru
      have hb : (reprText x).length ≤ sizeLine := by
        have := PySem.StrLaws.reprText_len x fun c hc => Nat.lt_of_lt_of_le (ha c hc) (by decide)
        exact Nat.le_trans this (Nat.le_trans (show _ ≤ 1000002 by omega) (by decide))
      exact PySem.P.repr_of_str ⟨.str _, H, I.tok _, ⟨_, rfl⟩, q⟩ hb
    · obtain ⟨t, rfl⟩ := ru
      exact PySem.P.repr_of_int hi ⟨.str _, H, I.tok _, ⟨_, rfl⟩, q⟩
end
end GRS

set_option pp.maxSteps 900
/-! k07's law -/
namespace Y7W
open PySem PySem.Spec PyProof.Rows L2 KA KD KL PH PM PA PB PC RM RN RS RJ QE QF QG QH QK QL XE Y7X Y7R Y7C2 UJN
open NZ (allS)
open K9 (Cn cn_one)
abbrev sEc : Stmt := topS 2
abbrev sEI : Stmt := inClass sEc 0
abbrev sLaw : Stmt := topS 48
theorem scLaw : FnScope ["script", "far", "k", "feed", "texts", "some", "rest", "turn", "load", "cycles", "first", "rows", "text", "again", "one", "row"] ["script"] (defScope Y7W.sLaw) := ⟨rfl, rfl, rfl, by decide +kernel, rfl, by decide +kernel, by decide +kernel⟩
structure Txt (P : Program) (K : PySem.W.Frag) (mg : Str → Option Value) (fCO fRG fTP fIL fBT fSW fNU fRD fNL fRO fMT fPB fCN fAL fOU fCR fPW fCY fCI fPT fFE fTA fPI fLO fLP fLR fLH fPL fCT fHV fLN fLC fDU fTO fRR fCH CT_ fIN pO fOF pP fPA fJN pC fPC pR fPR_ p3 fPH fPG fEQ fST C CW fEI : Addr) (dCO dRG dTP dIL dBT dSW dNU dRD dNL dRO dMT dPB dCN dAL dOU dCR dPW dCY dCI dPT dFE dTA dPI dLO dLP dLR dLH dPL dCT dHV dLN dLC dDU dTO dRR dCH dIN dOF dPA dJN dPC dPR_ dPH dPG dEQ dST dEI : FuncData) : Prop where
  FCO : Fun K "contains" "contains" sCont fCO dCO
  gCO : mg "contains" = some (.ref fCO)
  kCO : PySem.W.keepIn K (.ref fCO) = true
  bCO : Binds K dCO ["outer", "inner"] []
  FRG : Fun K "range_of" "range_of" sRng fRG dRG
  gRG : mg "range_of" = some (.ref fRG)
  kRG : PySem.W.keepIn K (.ref fRG) = true
  bRG : Binds K dRG ["one", "other"] []
  FTP : Fun K "turning_points" "turning_points" sTP fTP dTP
  gTP : mg "turning_points" = some (.ref fTP)
  kTP : PySem.W.keepIn K (.ref fTP) = true
  bTP : Binds K dTP ["load"] []
  FIL : Fun K "is_left_out" "is_left_out" sLO fIL dIL
  gIL : mg "is_left_out" = some (.ref fIL)
  kIL : PySem.W.keepIn K (.ref fIL) = true
  bIL : Binds K dIL ["points", "reading"] []
  FBT : Fun K "_lies_between" "_lies_between" sBtw fBT dBT
  gBT : mg "_lies_between" = some (.ref fBT)
  kBT : PySem.W.keepIn K (.ref fBT) = true
  bBT : Binds K dBT ["reading", "before", "after"] []
  FSW : Fun K "swings" "swings" sSw fSW dSW
  gSW : mg "swings" = some (.ref fSW)
  kSW : PySem.W.keepIn K (.ref fSW) = true
  bSW : Binds K dSW ["load"] []
  FNU : Fun K "is_number" "is_number" Y7X.sNU fNU dNU
  gNU : mg "is_number" = some (.ref fNU)
  kNU : PySem.W.keepIn K (.ref fNU) = true
  bNU : Binds K dNU ["value"] []
  FRD : Fun K "is_reading" "is_reading" Y7X.sRD fRD dRD
  gRD : mg "is_reading" = some (.ref fRD)
  kRD : PySem.W.keepIn K (.ref fRD) = true
  bRD : Binds K dRD ["value"] []
  FNL : Fun K "is_numeral" "is_numeral" Y7X.sNM fNL dNL
  gNL : mg "is_numeral" = some (.ref fNL)
  kNL : PySem.W.keepIn K (.ref fNL) = true
  bNL : Binds K dNL ["word"] []
  FRO : Fun K "reading_of" "reading_of" Y7X.sRO fRO dRO
  gRO : mg "reading_of" = some (.ref fRO)
  kRO : PySem.W.keepIn K (.ref fRO) = true
  bRO : Binds K dRO ["word"] []
  FMT : Fun K "_may_be_taken" "_may_be_taken" sMT fMT dMT
  gMT : mg "_may_be_taken" = some (.ref fMT)
  kMT : PySem.W.keepIn K (.ref fMT) = true
  bMT : Binds K dMT ["points", "place"] []
  FPB : Fun K "put_behind" "put_behind" sPB fPB dPB
  gPB : mg "put_behind" = some (.ref fPB)
  kPB : PySem.W.keepIn K (.ref fPB) = true
  bPB : Binds K dPB ["rest", "reading"] []
  FCN : Fun K "_counted" "_counted" sCo fCN dCN
  gCN : mg "_counted" = some (.ref fCN)
  kCN : PySem.W.keepIn K (.ref fCN) = true
  bCN : Binds K dCN ["load"] []
  FAL : Fun K "are_left" "are_left" Y7X.sAL fAL dAL
  gAL : mg "are_left" = some (.ref fAL)
  kAL : PySem.W.keepIn K (.ref fAL) = true
  bAL : Binds K dAL ["points"] []
  FOU : Fun K "cycles_outside" "cycles_outside" Y7X.sOU fOU dOU
  gOU : mg "cycles_outside" = some (.ref fOU)
  kOU : PySem.W.keepIn K (.ref fOU) = true
  bOU : Binds K dOU ["cycles", "rest"] []
  FCR : Fun K "cycles_row" "cycles_row" WN.sCR fCR dCR
  gCR : mg "cycles_row" = some (.ref fCR)
  kCR : PySem.W.keepIn K (.ref fCR) = true
  bCR : Binds K dCR ["cycles"] []
  FPW : Fun K "points_row" "points_row" WN.sPRw fPW dPW
  gPW : mg "points_row" = some (.ref fPW)
  kPW : PySem.W.keepIn K (.ref fPW) = true
  bPW : Binds K dPW ["points"] []
  FCY : Fun K "_cycles_in" "_cycles_in" Y7X.sCY fCY dCY
  gCY : mg "_cycles_in" = some (.ref fCY)
  kCY : PySem.W.keepIn K (.ref fCY) = true
  bCY : Binds K dCY ["row"] []
  FCI : Fun K "_cycle_in" "_cycle_in" Y7X.sCI fCI dCI
  gCI : mg "_cycle_in" = some (.ref fCI)
  kCI : PySem.W.keepIn K (.ref fCI) = true
  bCI : Binds K dCI ["word"] []
  FPT : Fun K "_points_in" "_points_in" Y7X.sPT fPT dPT
  gPT : mg "_points_in" = some (.ref fPT)
  kPT : PySem.W.keepIn K (.ref fPT) = true
  bPT : Binds K dPT ["row"] []
  FFE : Fun K "_law_feed" "_law_feed" sFeed fFE dFE
  gFE : mg "_law_feed" = some (.ref fFE)
  kFE : PySem.W.keepIn K (.ref fFE) = true
  bFE : Binds K dFE ["script", "k"] []
  FTA : Fun K "_law_take" "_law_take" sTake fTA dTA
  gTA : mg "_law_take" = some (.ref fTA)
  kTA : PySem.W.keepIn K (.ref fTA) = true
  bTA : Binds K dTA ["feed", "many"] []
  FPI : Fun K "_law_pick" "_law_pick" sPick fPI dPI
  gPI : mg "_law_pick" = some (.ref fPI)
  kPI : PySem.W.keepIn K (.ref fPI) = true
  bPI : Binds K dPI ["feed", "some"] []
  FLO : Fun K "_law_load" "_law_load" sLoad fLO dLO
  gLO : mg "_law_load" = some (.ref fLO)
  kLO : PySem.W.keepIn K (.ref fLO) = true
  bLO : Binds K dLO ["feed", "most"] []
  FLP : Fun K "_law_points" "_law_points" WF2.sLP fLP dLP
  gLP : mg "_law_points" = some (.ref fLP)
  kLP : PySem.W.keepIn K (.ref fLP) = true
  bLP : Binds K dLP ["load"] []
  FLR : Fun K "_law_range" "_law_range" WP.sLR fLR dLR
  gLR : mg "_law_range" = some (.ref fLR)
  kLR : PySem.W.keepIn K (.ref fLR) = true
  bLR : Binds K dLR ["one", "other"] []
  FLH : Fun K "_law_holds" "_law_holds" WP.sLH fLH dLH
  gLH : mg "_law_holds" = some (.ref fLH)
  kLH : PySem.W.keepIn K (.ref fLH) = true
  bLH : Binds K dLH ["outer", "inner"] []
  FPL : Fun K "_law_places" "_law_places" WP.sPl fPL dPL
  gPL : mg "_law_places" = some (.ref fPL)
  kPL : PySem.W.keepIn K (.ref fPL) = true
  bPL : Binds K dPL ["points"] []
  FCT : Fun K "_law_count" "_law_count" WP.sCt fCT dCT
  gCT : mg "_law_count" = some (.ref fCT)
  kCT : PySem.W.keepIn K (.ref fCT) = true
  bCT : Binds K dCT ["feed", "load"] []
  FHV : Fun K "_law_halves" "_law_halves" WP.sHv fHV dHV
  gHV : mg "_law_halves" = some (.ref fHV)
  kHV : PySem.W.keepIn K (.ref fHV) = true
  bHV : Binds K dHV ["cycles", "rest"] []
  FLN : Fun K "_law_number" "_law_number" Y7R.sLN fLN dLN
  gLN : mg "_law_number" = some (.ref fLN)
  kLN : PySem.W.keepIn K (.ref fLN) = true
  bLN : Binds K dLN ["word"] []
  FLC : Fun K "_law_cycles" "_law_cycles" Y7R.sLC fLC dLC
  gLC : mg "_law_cycles" = some (.ref fLC)
  kLC : PySem.W.keepIn K (.ref fLC) = true
  bLC : Binds K dLC ["row"] []
  FDU : Fun K "_law_due" "_law_due" Y7R.sDU fDU dDU
  gDU : mg "_law_due" = some (.ref fDU)
  kDU : PySem.W.keepIn K (.ref fDU) = true
  bDU : Binds K dDU ["text"] []
  FTO : Fun K "_law_told" "_law_told" Y7R.sTO fTO dTO
  gTO : mg "_law_told" = some (.ref fTO)
  kTO : PySem.W.keepIn K (.ref fTO) = true
  bTO : Binds K dTO ["text"] []
  FRR : Fun K "_law_read_right" "_law_read_right" Y7R.sRR fRR dRR
  gRR : mg "_law_read_right" = some (.ref fRR)
  kRR : PySem.W.keepIn K (.ref fRR) = true
  bRR : Binds K dRR ["text", "load", "halves"] []
  FCH : Fun K "_law_changed" "_law_changed" Y7C2.sCH fCH dCH
  gCH : mg "_law_changed" = some (.ref fCH)
  kCH : PySem.W.keepIn K (.ref fCH) = true
  bCH : Binds K dCH ["feed", "text"] []
  gCT_ : mg "Count" = some (.ref CT_)
  cn : Cnt K CT_
  mkc : Mk K CT_ fIN
  FIN : Fun K "__init__" "Count.__init__" sInit fIN dIN
  bIN : Binds K dIN ["self", "cycles", "rest"] []
  rd : ClX.CRead K CT_ (.type "type")
  cmO : ClX.CMet K CT_ (.type "type") "of" pO fOF
  FOF : Fun K "of" "Count.of" sOf fOF dOF
  bOF : Binds K dOF ["cls", "load"] []
  rd2 : ClX.CRead K CT_ (.type "type")
  cm : ClX.CMet K CT_ (.type "type") "parse" pP fPA
  FPA : Fun K "parse" "Count.parse" Y7X.sPA fPA dPA
  bPA : Binds K dPA ["cls", "text"] []
  sj : SM.SMet K CT_ (.type "type") "joined" fJN
  FJN : Fun K "joined" "Count.joined" sJN fJN dJN
  prC : PropOf K CT_ "cycles" pC fPC
  FPC : Fun K "cycles" "Count.cycles" sPC fPC dPC
  bPC : Binds K dPC ["self"] []
  prR : PropOf K CT_ "rest" pR fPR_
  FPR_ : Fun K "rest" "Count.rest" sPR fPR_ dPR_
  bPR_ : Binds K dPR_ ["self"] []
  prH : PropOf K CT_ "half_cycles" p3 fPH
  FPH : Fun K "half_cycles" "Count.half_cycles" sPH fPH dPH
  bPH : Binds K dPH ["self"] []
  mPG : Meth K CT_ "changes" fPG
  FPG : Fun K "changes" "Count.changes" sPG fPG dPG
  bPG : Binds K dPG ["self", "low", "high"] []
  insEQ : C8.InsC K CT_
  fnEQ : PySem.W.findIn K (.ref CT_) "__eq__" = some (some (.ref fEQ))
  iEQ : PySem.W.isFn K (.ref fEQ) = true
  mOEQ : PySem.W.mroIn K CT_ (.type "object") = some true
  neEQ : PySem.W.findIn K (.ref CT_) "__ne__" = some (some (.builtin "object.__ne__"))
  FEQ : Fun K "__eq__" "Count.__eq__" sEQ fEQ dEQ
  bEQ : Binds K dEQ ["self", "other"] []
  fnST : PySem.W.findIn K (.ref CT_) "__str__" = some (some (.ref fST))
  iST : PySem.W.isFn K (.ref fST) = true
  FST : Fun K "__str__" "Count.__str__" WN.sST fST dST
  bST : Binds K dST ["self"] []
  gN : ∃ u, mg "NOTHING" = some u ∧ RelV (.str "none") u
  gLIM : ∃ u, mg "LIMIT" = some u ∧ RelV (.int 1000000000) u
  gLON : ∃ u, mg "LONGEST" = some u ∧ RelV (.int 11) u
  len : mg "len" = none
  max : mg "max" = none
  min : mg "min" = none
  abs : mg "abs" = none
  range : mg "range" = none
  tuple : mg "tuple" = none
  list : mg "list" = none
  int : mg "int" = none
  isinstance : mg "isinstance" = none
  bool : mg "bool" = none
  repr : mg "repr" = none
  str : mg "str" = none
  ValueError : mg "ValueError" = none
  sorted : mg "sorted" = none
  zip : mg "zip" = none
  gE : mg "InvalidText" = some (.ref C)
  gW : mg "WearError" = some (.ref CW)
  eC : ErrC K C fEI "row"
  FEI : XS.FunS K P "__init__" "InvalidText.__init__" sEI C fEI dEI
  bEI : Binds K dEI ["self", "row"] []
  sK : XS.SupK K P mg
  sC : XS.SupC K C
  xf : XS.XfA K "row" C
  ec : ExcC K C
  exm : PySem.W.exmOne K (.ref C) (.ref CW) = some true
  kv : PySem.W.kitOne K (.ref C) (.type "ValueError") = some true
/-- the elements of the comprehensions, as readings -/
def rAS : R2 := fun x y H Q => ∃ i j, x = .str i ∧ y = .str j ∧ i.length + j.length ≤ sizeLine ∧ Q (.str (i ++ j)) H
def teS (t : TE) : TE := tCB (fun xs H Q => ∃ i, xs = [.int i] ∧ i.natAbs.log2 < 1920 ∧ Q (.str (toString i)) H) (tCons t tNil)
def teC (K : PySem.W.Frag) : TE := tOp rAS (tOp rAS (teS (tOp (rIxT K) (tVar 14) (tC (.int 0)))) (tC (.str ":"))) (teS (tOp (rIxT K) (tVar 14) (tC (.int 1))))
def teR : TE := tIf (tTest (tOp rNe (tVar 15) (tC (.str "")))) (tVar 15) (tC (.str "none"))
/-- texts that may stand in the list -/
def OkT (ts : List Str) : Prop := ∀ t ∈ ts, Asc t ∧ t.length ≤ 20000
theorem okt_of {ts : List Str} (h : (ts.all fun u => decide (u.length ≤ 20000) && u.cps.all (· < 128)) = true) : OkT ts := fun u hu => by
  have h := List.all_eq_true.mp h u hu
  rw [Bool.and_eq_true, decide_eq_true_eq] at h
  refine ⟨fun c hc => ?_, h.1⟩
  have h2 := h.2
  rw [← Array.all_toList, List.all_eq_true] at h2
  exact of_decide_eq_true (h2 c hc)
theorem OkT.app {ts us : List Str} (h : OkT ts) (g : OkT us) : OkT (ts ++ us) := fun t ht => (List.mem_append.mp ht).elim (h t) (g t)
/-- at most so long, of ASCII signs -/
def Bn (m : Nat) (x : Str) : Prop := Asc x ∧ x.length ≤ m
theorem Bn.app {m n : Nat} {x y : Str} (h : Bn m x) (g : Bn n y) : Bn (m + n) (x ++ y) := ⟨asc_app h.1 g.1, by have h1 := h.2; have h2 := g.2; rw [WN.len_app]; omega⟩
theorem Bn.sl {m n : Nat} {x y : Str} (h : Bn m x) (g : Bn n y) (k : m + n ≤ 100000 := by decide) : x.length + y.length ≤ sizeLine := by
  have h1 := h.2
  have h2 := g.2
  exact Nat.le_trans (show _ ≤ 100000 by omega) (by decide)
theorem bn_of {x : Str} {m : Nat} (h : (decide (x.length ≤ m) && x.cps.all (· < 128)) = true) : Bn m x := by
  rw [Bool.and_eq_true, decide_eq_true_eq] at h
  refine ⟨fun c hc => ?_, h.1⟩
  have h2 := h.2
  rw [← Array.all_toList, List.all_eq_true] at h2
  exact of_decide_eq_true (h2 c hc)
theorem bn_rep {x : Str} {m n : Nat} (h : Bn m x) : Bn (n * m) (GRS.repS x n) := ⟨fun c hc => h.1 c (GRS.repS_mem hc), by rw [GRS.repS_len]; exact Nat.mul_le_mul_left n h.2⟩
def nz (s : Str) : Str := if s = "" then "none" else s
theorem join_one {ws : List Str} (h : ∃ u ∈ ws, TL.tl u ≠ []) : Txt.join " " ws ≠ "" := fun z => by
  obtain ⟨u, hu, hne⟩ := h
  have := congrArg TL.tl z
  rw [TL.join_eq, TL.tl_join] at this
  match ws, hu with
  | [v], hu =>
    rw [List.mem_singleton.mp hu] at hne
    exact hne this
  | v :: w :: ws, _ =>
    have t2 : TL.tl v ++ (TL.tl (" " : Str) ++ TL.joinL (TL.tl " ") ((w :: ws).map TL.tl)) = [] := this
    have t3 := (List.append_eq_nil_iff.mp (List.append_eq_nil_iff.mp t2).2).1
    rw [NX.blk] at t3
    cases t3
theorem join_nil : Txt.join " " [] = "" := by decide +kernel
theorem int_ne (n : Int) : TL.tl (NX.tI n) ≠ [] := fun z => by
  rw [NX.tl_int] at z
  split at z
  · cases z
  · exact TL.numL_ne _ z
theorem nz_C (ds : List (Int × Int)) : nz (Txt.join " " (ds.map NZ.cw)) = NZ.rowC ds := by
  unfold nz NZ.rowC
  cases ds with
  | nil => rfl
  | cons r ds =>
    rw [if_neg (show ¬ r :: ds = [] by simp), if_neg (join_one ⟨NZ.cw r, List.mem_map.mpr ⟨r, List.mem_cons_self, rfl⟩, fun z => by
      unfold NZ.cw at z
      rw [TL.tl_append, TL.tl_append] at z
      exact int_ne _ (List.append_eq_nil_iff.mp (List.append_eq_nil_iff.mp z).1).1⟩)]
theorem nz_P (rs : List Int) : nz (Txt.join " " (rs.map NX.tI)) = NZ.rowP rs := by
  unfold nz NZ.rowP
  cases rs with
  | nil => rfl
  | cons r rs => rw [if_neg (show ¬ r :: rs = [] by simp), if_neg (join_one ⟨NX.tI r, List.mem_map.mpr ⟨r, List.mem_cons_self, rfl⟩, int_ne r⟩)]
theorem txt_asc {cs : List (Int × Int)} {rs : List Int} : Asc (NZ.txt cs rs) := by
  have an : Asc ("none" : Str) := (bn_of (m := 4) (by decide +kernel)).1
  refine asc_join (fun c hc => by rw [NX.nlk, List.mem_singleton] at hc; rw [hc]; decide) fun u hu => ?_
  have ab : Asc (" " : Str) := fun c hc => by rw [NX.blk, List.mem_singleton] at hc; rw [hc]; decide
  rcases List.mem_cons.mp hu with rfl | hu
  · unfold NZ.rowC
    split
    · exact an
    · refine asc_join ab fun v hv => ?_
      obtain ⟨r, _, rfl⟩ := List.mem_map.mp hv
      intro c hc
      have := NZ.cw_signs hc
      omega
  · rw [List.mem_singleton.mp hu]
    unfold NZ.rowP
    split
    · exact an
    · refine asc_join ab fun v hv => ?_
      obtain ⟨r, _, rfl⟩ := List.mem_map.mp hv
      intro c hc
      have := NX.int_signs hc
      omega
theorem txt_len {cs : List (Int × Int)} {rs : List Int} (h : CntOk cs rs) (hl : 2 * cs.length + rs.length ≤ 12) : (NZ.txt cs rs).length ≤ 400 := by
  have e1 : (("\n" : Str)).length = 1 := by decide +kernel
  have hs : WN.Small cs rs := ok_small h (by omega) (by omega)
  obtain ⟨b1, b2, b3, b4⟩ := hs
  rw [← txt_eq]
  have e2 : ((" " : Str)).length = 1 := by decide +kernel
  have l1 : (WN.rowC cs).length ≤ 28 * 6 + 4 := by
    unfold WN.rowC
    split
    · rw [WN.none_len]; omega
    · have h := WN.join_len (sep := " ") (B := 27) (xs := cs.map WN.txC) fun x hx => by
        obtain ⟨r, hr, e⟩ := List.mem_map.mp hx
        rw [← e]
        exact WN.txC_len (b3 r hr)
      rw [e2, List.length_map] at h
      omega
  have l2 : (WN.rowP rs).length ≤ 14 * 12 + 4 := by
    unfold WN.rowP
    split
    · rw [WN.none_len]; omega
    · have h := WN.join_len (sep := " ") (B := 13) (xs := rs.map WN.ti) fun x hx => by
        obtain ⟨r, hr, e⟩ := List.mem_map.mp hx
        rw [← e]
        exact WN.ti_len (b4 r hr)
      rw [e2, List.length_map] at h
      omega
  have h := join_jl (y := "\n") e1 (vs := [WN.rowC cs, WN.rowP rs]) (by simp)
  have e3 : jl [WN.rowC cs, WN.rowP rs] = (WN.rowC cs).length + ((WN.rowP rs).length + 0) + 2 := rfl
  have e4 : (WN.txt cs rs) = Str.join "\n" [WN.rowC cs, WN.rowP rs] := TL.join_eq _ _
  rw [e4]
  omega
theorem tld_log {x : Str} {j : Nat} (h : pcn x = .inl j) : j ≤ 2 := by
  unfold pcn at h
  cases e0 : Txt.split x "\n" with
  | nil => rw [e0] at h; cases h; omega
  | cons r0 more =>
    rw [e0] at h
    cases e1 : okC r0 with
    | none => rw [pcr_0 e1] at h; cases h; omega
    | some ds =>
      cases more with
      | nil => rw [pcr_1 e1] at h; cases h; omega
      | cons r1 rest =>
        cases e2 : allS (NZ.rsr r1) with
        | none => rw [pcr_2 e1 e2] at h; cases h; omega
        | some ss =>
          cases rest with
          | cons _ _ => rw [pcr_3 e1 e2] at h; cases h; omega
          | nil =>
            cases e3 : leftB ss with
            | false => rw [pcr_4 e1 e2 e3] at h; cases h; omega
            | true =>
              cases e4 : inB ds ss with
              | false => rw [pcr_5 e1 e2 e3 e4] at h; cases h; omega
              | true => rw [pcr_6 e1 e2 e3 e4] at h; cases h
def L8 : List Str := ["", "none", "0:1\n0 1", "0:1\n0", "0:1\nnone", "0:1 0:1\n0 1", "1:2 0:1\n0 2", "0:3\n0 2"]
def L10 : List Str := ["", "none", "5", "0 1", "0 0", "0 2 1 2", "0 2 0 2", "1 2 0 2", "0 1\nnone", "1 2 3"]
def L11 : List Str := L10 ++ [("1_0" : Str)]
section
variable {P : Program} {w : World} {K : PySem.W.Frag} {mg : Str → Option Value} {base : Heap} {fCO fRG fTP fIL fBT fSW fNU fRD fNL fRO fMT fPB fCN fAL fOU fCR fPW fCY fCI fPT fFE fTA fPI fLO fLP fLR fLH fPL fCT fHV fLN fLC fDU fTO fRR fCH CT_ fIN pO fOF pP fPA fJN pC fPC pR fPR_ p3 fPH fPG fEQ fST C CW fEI : Addr} {dCO dRG dTP dIL dBT dSW dNU dRD dNL dRO dMT dPB dCN dAL dOU dCR dPW dCY dCI dPT dFE dTA dPI dLO dLP dLR dLH dPL dCT dHV dLN dLC dDU dTO dRR dCH dIN dOF dPA dJN dPC dPR_ dPH dPG dEQ dST dEI : FuncData}
def spLaw (K : PySem.W.Frag) : Sp := fun vs H Q _ => ∃ (a : Addr) (ns : List Int), vs = [.ref a] ∧ SqL K H a (ns.map V.int) ∧ ns.length ≤ 63 ∧ ∀ H', Q (.bl true) H'
theorem len_law {K : PySem.W.Frag} : ∀ vs H Q E, (spLaw K) vs H Q E → vs.length = (["script"] : List Str).length := fun vs H Q E h => by
  obtain ⟨a, ns, rfl, _⟩ := h
  rfl
theorem ok_law {f0 : Addr} {fd : FuncData} (F : Fun K "law" "law" Y7W.sLaw f0 fd) (T : Txt P K mg fCO fRG fTP fIL fBT fSW fNU fRD fNL fRO fMT fPB fCN fAL fOU fCR fPW fCY fCI fPT fFE fTA fPI fLO fLP fLR fLH fPL fCT fHV fLN fLC fDU fTO fRR fCH CT_ fIN pO fOF pP fPA fJN pC fPC pR fPR_ p3 fPH fPG fEQ fST C CW fEI dCO dRG dTP dIL dBT dSW dNU dRD dNL dRO dMT dPB dCN dAL dOU dCR dPW dCY dCI dPT dFE dTA dPI dLO dLP dLR dLH dPL dCT dHV dLN dLC dDU dTO dRR dCH dIN dOF dPA dJN dPC dPR_ dPH dPG dEQ dST dEI) : KW.Kept P w K mg base 9 f0 fd ["script"] (spLaw K) := by
  have GCO : FnOk P w K mg base CX0 1 fCO dCO ["outer", "inner"] (spCont K) := ok_Cont T.FCO
  have GRG : FnOk P w K mg base CX0 1 fRG dRG ["one", "other"] spRng := ok_Rng T.FRG T.min T.max
  have GIL : FnOk P w K mg base CX0 2 fIL dIL ["points", "reading"] (spLO K) := ok_LO T.FIL T.FBT T.gBT T.bBT T.len
  have GTP : FnOk P w K mg base CX0 3 fTP dTP ["load"] (spTP K) := both (ok_TPl T.FTP GIL T.gIL T.kIL T.bIL T.tuple) (ok_TPt T.FTP GIL T.gIL T.kIL T.bIL T.tuple)
  have GSW : FnOk P w K mg base CX0 4 fSW dSW ["load"] (spSw K) := ok_sw T.FSW GTP T.gTP T.kTP T.bTP (GRG.mono (by decide)) T.gRG T.kRG T.bRG T.zip
  have GMT : FnOk P w K mg base CX0 2 fMT dMT ["points", "place"] (spMT K) := ok_MT T.FMT T.abs
  have GPB : FnOk P w K mg base CX0 3 fPB dPB ["rest", "reading"] spPB := ok_PB T.FPB GIL T.gIL T.kIL T.bIL GMT T.gMT T.kMT T.bMT (GRG.mono (by decide)) T.gRG T.kRG T.bRG T.len
  have GCN : FnOk P w K mg base CX0 4 fCN dCN ["load"] (spCo K) := ok_Co T.FCN GPB T.gPB T.kPB T.bPB
  have GIN : FnOk P w K mg base CX0 1 fIN dIN ["self", "cycles", "rest"] (spInit K CT_) := ok_init T.FIN T.cn T.sorted T.tuple
  have GOF : FnOk P w K mg base CX0 5 fOF dOF ["cls", "load"] (spOf K CT_) := ok_of T.FOF T.mkc (GIN.mono (by decide)) T.bIN GCN T.gCN T.kCN T.bCN
  have GPC : FnOk P w K mg base CX0 1 fPC dPC ["self"] (spPC CT_) := ok_PC T.FPC T.cn
  have GPR_ : FnOk P w K mg base CX0 1 fPR_ dPR_ ["self"] (spPR CT_) := ok_PR T.FPR_ T.cn
  have GPH : FnOk P w K mg base CX0 5 fPH dPH ["self"] (spPH CT_) := ok_PH T.FPH T.cn GSW T.gSW T.kSW T.bSW T.sorted T.tuple
  have GPG : FnOk P w K mg base CX0 7 fPG dPG ["self", "low", "high"] (spPG CT_) := ok_PG T.FPG T.cn T.prH GPH T.bPH (GCO.mono (by decide)) T.gCO T.kCO T.bCO T.len
  have GEQ : FnOk P w K mg base CX0 1 fEQ dEQ ["self", "other"] (spEQ CT_) := ok_EQ T.FEQ T.cn T.insEQ T.gCT_ T.isinstance
  have GCR : FnOk P w K mg base CX0 1 fCR dCR ["cycles"] (WN.spCR K) := WN.ok_CR T.FCR T.gN
  have GPW : FnOk P w K mg base CX0 1 fPW dPW ["points"] (WN.spPRw K) := WN.ok_PRw T.FPW T.gN T.str
  have GST : FnOk P w K mg base CX0 2 fST dST ["self"] (WN.spST CT_) := WN.ok_ST T.FST T.cn GCR T.gCR T.kCR T.bCR GPW T.gPW T.kPW T.bPW
  have GNU : FnOk P w K mg base CX0 1 fNU dNU ["value"] spNU := ok_NU T.FNU T.isinstance T.int T.bool
  have GRD : FnOk P w K mg base CX0 2 fRD dRD ["value"] spRD := ok_RD T.FRD GNU T.gNU T.kNU T.bNU T.abs T.gLIM
  have GNL : FnOk P w K mg base CX0 1 fNL dNL ["word"] Y7X.spNM := Y7X.ok_NM T.FNL
  have GRO : FnOk P w K mg base CX0 3 fRO dRO ["word"] spRO := ok_RO T.FRO GRD T.gRD T.kRD T.bRD GNL T.gNL T.kNL T.bNL T.len T.int T.gLON
  have GCI : FnOk P w K mg base CX0 4 fCI dCI ["word"] spCI := ok_CI T.FCI GRO T.gRO T.kRO T.bRO
  have GAL : FnOk P w K mg base CX0 5 fAL dAL ["points"] spAL := ok_AL T.FAL GCN T.gCN T.kCN T.bCN T.list
  have GOU : FnOk P w K mg base CX0 2 fOU dOU ["cycles", "rest"] spOU := ok_OU T.FOU GCO T.gCO T.kCO T.bCO T.min T.max T.list
  have GFE : FnOk P w K mg base CX0 1 fFE dFE ["script", "k"] (spFeed K) := ok_feed T.FFE T.len T.max T.abs
  have GTA : FnOk P w K mg base CX0 1 fTA dTA ["feed", "many"] spTake := ok_take T.FTA
  have GPI : FnOk P w K mg base CX0 2 fPI dPI ["feed", "some"] (spPick K) := ok_pick T.FPI T.FTA T.gTA T.bTA T.len
  have GLO : FnOk P w K mg base CX0 3 fLO dLO ["feed", "most"] spLoad := ok_load T.FLO T.FTA T.gTA T.bTA T.FPI T.gPI T.bPI T.len T.range T.min
  have GLP : FnOk P w K mg base CX0 1 fLP dLP ["load"] (WF2.spLP K) := WF2.ok_LP T.FLP T.len T.range T.int
  have GLR : FnOk P w K mg base CX0 1 fLR dLR ["one", "other"] spRng := WP.ok_LR T.FLR T.min T.max
  have GLH : FnOk P w K mg base CX0 1 fLH dLH ["outer", "inner"] (spCont K) := WP.ok_LH T.FLH
  have GPL : FnOk P w K mg base CX0 2 fPL dPL ["points"] (WP.spPl K) := WP.ok_pl T.FPL GLR T.gLR T.kLR T.bLR GLH T.gLH T.kLH T.bLH T.len T.range
  have GCT : FnOk P w K mg base CX0 3 fCT dCT ["feed", "load"] (UCT.spCt K) := UCT.ok_ct T.FCT (GLP.mono (by decide)) T.gLP T.kLP T.bLP GPL T.gPL T.kPL T.bPL (GLR.mono (by decide)) T.gLR T.kLR T.bLR T.sorted
  have GHV : FnOk P w K mg base CX0 2 fHV dHV ["cycles", "rest"] (WP.spHv K) := WP.ok_hv T.FHV GLR T.gLR T.kLR T.bLR T.len T.range T.sorted
  have GLN : FnOk P w K mg base CX0 1 fLN dLN ["word"] spLN := ok_LN T.FLN T.len T.int T.str T.abs
  have GLC : FnOk P w K mg base CX0 2 fLC dLC ["row"] spLC := ok_LC T.FLC GLN T.gLN T.kLN T.bLN T.len T.tuple T.sorted
  have GDU : FnOk P w K mg base CX0 3 fDU dDU ["text"] spDU := ok_DU T.FDU GLN T.gLN T.kLN T.bLN GLC T.gLC T.kLC T.bLC GLP T.gLP T.kLP T.bLP GPL T.gPL T.kPL T.bPL GLH T.gLH T.kLH T.bLH T.len T.min T.max
  have GJN5 : FnR P w K mg base CX0 5 fJN (spJN CT_) := ok_JN T.FJN T.cn T.mkc T.gCT_ (GIN.mono (by decide)) T.bIN GCN T.gCN T.kCN T.bCN T.prC (GPC.mono (by decide)) T.bPC T.prR (GPR_.mono (by decide)) T.bPR_
  have GJN : FnR P w K mg base CX0 7 fJN (spJN CT_) := fun A outer s H us vs Q E hr => GJN5 A outer s H us vs Q E (hr.mono (by decide))
  have GEI : FnOk P w K mg base CX0 1 fEI dEI ["self", "row"] (XS.spInit C "row") := XS.fn_init T.FEI T.sK T.sC rfl (NdefX.nscope_by (by decide +kernel)) rfl rfl (by decide) (by decide) rfl rfl T.xf.2 (fun _ => rfl) (fun _ => rfl)
  have GCY : FnOk P w K mg base (CX P w) 5 fCY dCY ["row"] (spCY C) := ok_CY T.FCY GCI T.gCI T.kCI T.bCI T.gN T.sorted T.eC T.gE GEI T.bEI
  have GPT : FnOk P w K mg base (CX P w) 4 fPT dPT ["row"] (spPT C) := ok_PT T.FPT GRO T.gRO T.kRO T.bRO T.gN T.eC T.gE GEI T.bEI
  have GPE : FnOk P w K mg base (CX P w) 7 fPA dPA ["cls", "text"] (spPE CT_ C) := ok_PE T.FPA GCY T.gCY T.kCY T.bCY GPT T.gPT T.kPT T.bPT GAL T.gAL T.kAL T.bAL GOU T.gOU T.kOU T.bOU T.mkc GIN T.bIN T.len T.eC T.gE GEI T.bEI
  have GTO : FnOk P w K mg base CX0 8 fTO dTO ["text"] spTO := ok_TO T.FTO T.gCT_ T.insEQ T.rd T.cm GPE T.bPA T.fnST T.iST GST T.bST T.gE T.gW T.exm T.xf T.ec T.kv T.isinstance T.str T.ValueError
  have GRR : FnOk P w K mg base CX0 8 fRR dRR ["text", "load", "halves"] spRR := ok_RR T.FRR T.gCT_ T.cn T.rd T.cm GPE T.bPA T.cmO (GOF.mono (by decide)) T.bOF T.sj GJN T.prH (GPH.mono (by decide)) T.bPH T.prR (GPR_.mono (by decide)) T.bPR_ T.mPG GPG T.bPG T.fnEQ T.iEQ T.mOEQ T.neEQ (GEQ.mono (by decide)) T.bEQ T.tuple
  have GPS : FnOk P w K mg base CX0 2 fPI dPI ["feed", "some"] spPickS := ok_pickS T.FPI T.FTA T.gTA T.bTA T.len
  have GCH : FnOk P w K mg base CX0 3 fCH dCH ["feed", "text"] spCH := ok_CH T.FCH GTA T.gTA T.kTA T.bTA GPI T.gPI T.kPI T.bPI GPS T.len
  have GCH := GCH.mono (show 3 ≤ 8 by decide)
  clear GEI GPE GPS GCY GPT GJN GJN5
  have GOF := GOF.mono (show 5 ≤ 8 by decide)
  have GFE := GFE.mono (show 1 ≤ 8 by decide)
  have GPI := GPI.mono (show 2 ≤ 8 by decide)
  have GLO := GLO.mono (show 3 ≤ 8 by decide)
  have GCT := GCT.mono (show 3 ≤ 8 by decide)
  have GHV := GHV.mono (show 2 ≤ 8 by decide)
  have GDU := GDU.mono (show 3 ≤ 8 by decide)
  refine KW.kept_of F Y7W.scLaw len_law (fun cdv A outer s H vs Q E hgA hr h => ?_)
  · obtain ⟨a, ns, rfl, hS, hlen, q⟩ := h
    refine ⟨_, (pss_cons (ps_set (i := 1) Y7W.scLaw.nd rfl (.inl rfl) (pe_op op_add_str pe_str (pe_op GRS.op_repS pe_str pe_int)))
      (pss_cons (ps_for PassesOwn.never rfl (pi_range1 rfl T.range (pa_cons (pe_callB (call_max2 rfl) (by rfl) T.max (by decide +kernel) (pa_cons pe_int (pa_cons (pe_callB (call_min2 rfl) (by rfl) T.min (by decide +kernel) (pa_cons pe_int (pa_cons (pe_callB call_len_seq (by rfl) T.len PySem.boot_len (pa_cons (pv 0) pa_nil)) pa_nil))) pa_nil))) pa_nil)) (pg_name (i := 2) Y7W.scLaw.nd rfl (.inl rfl))
      (pss_cons (ps_set (i := 3) Y7W.scLaw.nd rfl (.inl rfl) (pe_call GFE hr (by rfl) T.gFE T.kFE T.bFE .nil pass0 (pa_cons (pv 0) (pa_cons (pv 2) pa_nil))))
      (pss_cons (ps_set (i := 4) Y7W.scLaw.nd rfl (.inl rfl) (pe_lst (pa_cons pe_str (pa_cons pe_str (pa_cons pe_str (pa_cons pe_str (pa_cons pe_str (pa_cons pe_str (pa_cons pe_str (pa_cons pe_str pa_nil))))))))))
      (pss_cons (ps_set (i := 5) Y7W.scLaw.nd rfl (.inl rfl) (pe_lst (pa_cons pe_str (pa_cons pe_str (pa_cons pe_str (pa_cons pe_str (pa_cons pe_str (pa_cons pe_str (pa_cons pe_str (pa_cons pe_str (pa_cons pe_str (pa_cons pe_str pa_nil))))))))))))
      (pss_cons (ps_for PassesOwn.never rfl (pi_list (pe_op op_cat (pv 5) (pe_lst (pa_cons pe_str pa_nil)))) (pg_name (i := 6) Y7W.scLaw.nd rfl (.inl rfl))
      (pss_one (ps_expr (pe_bm PySem.F.plainAttrs_list PySem.F.slot_list_append PySem.F.type_list_append mt_append (pv 4) (pa_cons (pe_op op_add_str pe_str (pv 6)) pa_nil)))))
      (pss_cons (ps_set (i := 4) Y7W.scLaw.nd rfl (.inl rfl) (pe_op op_cat (pv 4) (pe_lst (pa_cons pe_str (pa_cons pe_str (pa_cons pe_str pa_nil))))))
      (pss_cons (ps_set (i := 4) Y7W.scLaw.nd rfl (.inl rfl) (pe_op op_cat (pv 4) (pe_lst (pa_cons (pe_op op_add_str (pe_op op_add_str (pe_op op_add_str pe_str (pv 1)) pe_str) (pv 1)) (pa_cons (pe_op op_add_str (pe_op op_add_str pe_str (pv 1)) pe_str) (pa_cons pe_str (pa_cons pe_str pa_nil)))))))
      (pss_cons (ps_set (i := 4) Y7W.scLaw.nd rfl (.inl rfl) (pe_op op_cat (pv 4) (pe_lst (pa_cons (pe_op op_add_str (pe_op op_add_str pe_str (pe_op GRS.op_repS pe_str pe_int)) pe_str) (pa_cons (pe_op op_add_str pe_str (pe_op GRS.op_repS pe_str pe_int)) (pa_cons pe_str (pa_cons pe_str pa_nil)))))))
      (pss_cons (ps_for PassesOwn.never rfl (pi_range1 rfl T.range (pa_cons pe_int pa_nil)) (pg_name (i := 7) Y7W.scLaw.nd rfl (.inl rfl))
      (pss_cons (ps_set (i := 8) Y7W.scLaw.nd rfl (.inl rfl) (pe_call GLO hr (by rfl) T.gLO T.kLO T.bLO .nil pass0 (pa_cons (pv 3) (pa_cons pe_int pa_nil))))
      (pss_cons (ps_asg (pe_call GCT hr (by rfl) T.gCT T.kCT T.bCT .nil pass0 (pa_cons (pv 3) (pa_cons (pv 8) pa_nil))) (pg_tup rfl (pgs_cons (pg_name (i := 9) Y7W.scLaw.nd rfl (.inl rfl)) (pgs_cons (pg_name (i := 6) Y7W.scLaw.nd rfl (.inl rfl)) pgs_nil))))
      (pss_cons (ps_set (i := 10) Y7W.scLaw.nd rfl (.inl rfl) (pe_join pe_str (pe_lc (own := [("one", 14)]) (g := gName 14) (tt := tYes) (te := teC K) rfl Y7W.scLaw.nd (pi_list (pv 9)) (blkOk_by (own := [("one", 14)]) (N := ["script", "far", "k", "feed", "texts", "some", "rest", "turn", "load", "cycles", "first", "rows", "text", "again", "one", "row"]) (sc := defScope Y7W.sLaw) (by decide +kernel)) (fun _ _ _ _ _ => (pg_name (i := 14) Y7W.scLaw.nd rfl (Or.inl rfl) (Or.inr rfl))) (fun _ _ _ _ _ => pts_nil) (fun _ _ _ _ _ => (pe_op op_add_str (pe_op op_add_str (pe_callTy call_str_int (by rfl) T.str (by decide +kernel) (pa_cons (pe_ix ix_tup (pv 14) pe_int (fun _ _ => rfl)) pa_nil)) pe_str) (pe_callTy call_str_int (by rfl) T.str (by decide +kernel) (pa_cons (pe_ix ix_tup (pv 14) pe_int (fun _ _ => rfl)) pa_nil)))))))
      (pss_cons (ps_set (i := 11) Y7W.scLaw.nd rfl (.inl rfl) (pe_lst (pa_cons (pv 10) (pa_cons (pe_join pe_str (pe_lc (own := [("one", 14)]) (g := gName 14) (tt := tYes) (te := teS (tVar 14)) rfl Y7W.scLaw.nd (pi_list (pv 6)) (blkOk_by (own := [("one", 14)]) (N := ["script", "far", "k", "feed", "texts", "some", "rest", "turn", "load", "cycles", "first", "rows", "text", "again", "one", "row"]) (sc := defScope Y7W.sLaw) (by decide +kernel)) (fun _ _ _ _ _ => (pg_name (i := 14) Y7W.scLaw.nd rfl (Or.inl rfl) (Or.inr rfl))) (fun _ _ _ _ _ => pts_nil) (fun _ _ _ _ _ => (pe_callTy call_str_int (by rfl) T.str (by decide +kernel) (pa_cons (pv 14) pa_nil))))) pa_nil))))
      (pss_cons (ps_set (i := 12) Y7W.scLaw.nd rfl (.inl rfl) (pe_join pe_str (pe_lc (own := [("row", 15)]) (g := gName 15) (tt := tYes) (te := teR) rfl Y7W.scLaw.nd (pi_list (pv 11)) (blkOk_by (own := [("row", 15)]) (N := ["script", "far", "k", "feed", "texts", "some", "rest", "turn", "load", "cycles", "first", "rows", "text", "again", "one", "row"]) (sc := defScope Y7W.sLaw) (by decide +kernel)) (fun _ _ _ _ _ => (pg_name (i := 15) Y7W.scLaw.nd rfl (Or.inl rfl) (Or.inr rfl))) (fun _ _ _ _ _ => pts_nil) (fun _ _ _ _ _ => (pe_ifExp (pt_cmpR op_ne (pv 15) pe_str (nomark _)) (pv 15) pe_str)))))
      (pss_cons (ps_if (PW.pt (pw_or (pt_cmpR op_ne (pe_callTy (GS.cr_strOwn (GST.mono (show 2 ≤ 6 by decide)) hr T.fnST T.iST T.bST pass0) (by rfl) T.str (by decide +kernel) (pa_cons (ClX.pe_cmeth (pe_glob (v := .ref CT_) (by rfl) T.gCT_ rfl) T.rd T.cmO (GOF.raw T.bOF .nil) hr pass0 (pa_cons (pv 8) pa_nil)) pa_nil)) (pv 12) (nomark _)) (pw_or1 (pt_not (pt_val (pe_call GRR hr (by rfl) T.gRR T.kRR T.bRR .nil pass0 (pa_cons (pv 12) (pa_cons (pv 8) (pa_cons (pe_call GHV hr (by rfl) T.gHV T.kHV T.bHV .nil pass0 (pa_cons (pv 9) (pa_cons (pv 6) pa_nil))) pa_nil))))))))) (pss_one (ps_ret pe_bl)) pss_nil)
      (pss_cons (ps_for PassesOwn.never rfl (pi_range1 rfl T.range (pa_cons (pe_call GPI hr (by rfl) T.gPI T.kPI T.bPI .nil pass0 (pa_cons (pv 3) (pa_cons (pe_lst (pa_cons pe_int (pa_cons pe_int (pa_cons pe_int (pa_cons pe_int (pa_cons pe_int pa_nil)))))) pa_nil))) pa_nil)) (pg_name (i := 13) Y7W.scLaw.nd rfl (.inl rfl))
      (pss_one (ps_set (i := 12) Y7W.scLaw.nd rfl (.inl rfl) (pe_call GCH hr (by rfl) T.gCH T.kCH T.bCH .nil pass0 (pa_cons (pv 3) (pa_cons (pv 12) pa_nil))))))
      (pss_one (ps_expr (pe_bm PySem.F.plainAttrs_list PySem.F.slot_list_append PySem.F.type_list_append mt_append (pv 4) (pa_cons (pv 12) pa_nil))))))))))))
      (pss_one (ps_if (pt_cmpR (op_neD hr.units) (pe_lc (own := [("text", 12)]) (g := gName 12)  (te := tVar 12) rfl Y7W.scLaw.nd (pi_list (pv 4)) (blkOk_by (own := [("text", 12)]) (N := ["script", "far", "k", "feed", "texts", "some", "rest", "turn", "load", "cycles", "first", "rows", "text", "again", "one", "row"]) (sc := defScope Y7W.sLaw) (by decide +kernel)) (fun _ _ _ _ _ => (pg_name (i := 12) Y7W.scLaw.nd rfl (Or.inl rfl) (Or.inr rfl))) (fun _ _ _ _ _ => pts_one (pt_cmpR op_ne (pe_callB GRS.cr_reprT (by rfl) T.repr (by decide +kernel) (pa_cons (pe_call GTO hr (by rfl) T.gTO T.kTO T.bTO .nil pass0 (pa_cons (pv 12) pa_nil)) pa_nil)) (pe_callB GRS.cr_reprT (by rfl) T.repr (by decide +kernel) (pa_cons (pe_call GDU hr (by rfl) T.gDU T.kDU T.bDU .nil pass0 (pa_cons (pv 12) pa_nil)) pa_nil)) (nomark _))) (fun _ _ _ _ _ => (pv 12))) (pe_lst pa_nil) (nomark _)) (pss_one (ps_ret pe_bl)) pss_nil)))))))))))
      (pss_one (ps_ret pe_bl)))), ?_⟩
    have b0 : Bn 1 ("0" : Str) := bn_of (by decide +kernel)
    have b1 : Bn 1 ("1" : Str) := bn_of (by decide +kernel)
    have b9 : Bn 1 ("9" : Str) := bn_of (by decide +kernel)
    have bb : Bn 1 (" " : Str) := bn_of (by decide +kernel)
    have bnn : Bn 5 ("none\n" : Str) := bn_of (by decide +kernel)
    have bnm : Bn 6 ("none\n-" : Str) := bn_of (by decide +kernel)
    have b0c : Bn 2 ("0:" : Str) := bn_of (by decide +kernel)
    have bn01 : Bn 4 ("\n0 1" : Str) := bn_of (by decide +kernel)
    have br9 : Bn 9 (GRS.repS "0" (9 : Int).toNat) := bn_rep b0
    have br5 : Bn 5000 (GRS.repS "9" (5000 : Int).toNat) := bn_rep b9
    refine ⟨"0", 9, rfl, rfl, by decide, by decide, by decide +kernel, by decide +kernel, "1", _, rfl, rfl, b1.sl br9, ?_⟩
    have hfar : Bn 10 (("1" : Str) ++ GRS.repS "0" (9 : Int).toNat) := b1.app br9
    obtain ⟨FAR, eFAR⟩ : ∃ F : Str, F = ("1" : Str) ++ GRS.repS "0" (9 : Int).toNat := ⟨_, rfl⟩
    rw [← eFAR] at hfar ⊢
    clear eFAR
    -- for k
    refine ⟨.ref a, rfl, a, ns.map V.int, rfl, .inl hS, 4, ((ns.map V.int).length : Int), rfl, 2, _, rfl, _, rfl, ?_⟩
    generalize hm : (if (if ((ns.map V.int).length : Int) < 4 then ((ns.map V.int).length : Int) else 4) > 2 then (if ((ns.map V.int).length : Int) < 4 then ((ns.map V.int).length : Int) else 4) else 2) = m
    have m0 : 0 ≤ m ∧ m ≤ 4 := by subst hm; split <;> split <;> omega
    refine ⟨by omega, by omega, for_range (lo := 0) (n := m.toNat) (fun i σ H' => Same H H' ∧ ∃ r2 r3 r4 r5 r6 r7 r8 r9 r10 r11 r12 r13 r14 r15 : Option V, σ = [some (.ref a), some (.str FAR), r2, r3, r4, r5, r6, r7, r8, r9, r10, r11, r12, r13, r14, r15]) ⟨Same.refl H, _, _, _, _, _, _, _, _, _, _, _, _, _, _, rfl⟩ ?_ (fun σ H' _ => q H')⟩
    rintro i σ H' hi ⟨sm, r2, r3, r4, r5, r6, r7, r8, r9, r10, r11, r12, r13, r14, r15, rfl⟩
    refine ⟨.ref a, rfl, .int (0 + (i : Int)), rfl, a, ns, 0 + (i : Int), rfl, sm.seq hS, by omega, by omega, fun H1 f s1 nf fe => ?_⟩
    have hf0 : H f = none := sm.free nf
    have sm1 := sm.trans s1
    clear sm s1 nf
    -- texts, some
    refine ⟨by show 8 ≤ sizeLine; decide, fun p1 np1 => ?_⟩
    have u1 := same_new (o := .lst (L8.map V.str)) np1
    have e1 : (upd H1 p1 (.lst (L8.map V.str))) p1 = some (.lst (L8.map V.str)) := upd_same
    have n1f := fe.ne np1
    have n1H : H p1 = none := sm1.free np1
    refine ⟨by show 10 ≤ sizeLine; decide, fun p2 np2 => ?_⟩
    have u2 := same_new (o := .lst (L10.map V.str)) np2
    have e2 : (upd (upd H1 p1 (.lst (L8.map V.str))) p2 (.lst (L10.map V.str))) p2 = some (.lst (L10.map V.str)) := upd_same
    have e12 := u2 _ _ e1
    have u12 := u1.trans u2
    have fe2 := fe.same u12
    have sm2 := sm1.trans u12
    refine ⟨.ref p2, rfl, by show 1 ≤ sizeLine; decide, fun p3 np3 => ?_⟩
    have u3 := same_new (o := .lst (([("1_0" : Str)] : List Str).map V.str)) np3
    refine ⟨p2, p3, _, _, rfl, rfl, u3 _ _ e2, upd_same, by show 10 + 1 ≤ sizeLine; decide, fun p4 np4 => ?_⟩
    have u4 := same_new (o := .lst (L11.map V.str)) np4
    have e4 : (upd (upd (upd (upd H1 p1 (.lst (L8.map V.str))) p2 (.lst (L10.map V.str))) p3 (.lst (([("1_0" : Str)] : List Str).map V.str))) p4 (.lst (L11.map V.str))) p4 = some (.lst (L11.map V.str)) := upd_same
    have sm4 := sm2.trans (u3.trans u4)
    have fe4 := fe2.same (u3.trans u4)
    have e14 := (u3.trans u4) _ _ e12
    have n41 : p4 ≠ p1 := (ne_of_none (u3 _ _ e12) np4).symm
    have okL : OkT L11 ∧ (∀ t ∈ L11, t.length ≤ 100) := ⟨okt_of (by decide +kernel), fun t ht => by
      have h : (L11.all fun t => decide (t.length ≤ 100)) = true := by decide +kernel
      exact of_decide_eq_true (List.all_eq_true.mp h t ht)⟩
    have ll : L11.length = 11 := by decide
    refine ⟨p4, rfl, ⟨_, SqL.of e4⟩, ?_⟩
    clear e1 e2 e12 fe2 sm2 sm1 fe
    refine for_list (K := K) (a := p4) (xs := L11.map V.str) (fun i σ Hz => Same H Hz ∧ FeedAt Hz f ∧ Hz p4 = some (.lst (L11.map V.str)) ∧ ∃ ts : List Str, Hz p1 = some (.lst (ts.map V.str)) ∧ ts.length = 8 + i ∧ OkT ts ∧ ∃ r2 r6 r7 r8 r9 r10 r11 r12 r13 r14 r15 : Option V, σ = [some (.ref a), some (.str FAR), r2, some (.ref f), some (.ref p1), some (.ref p2), r6, r7, r8, r9, r10, r11, r12, r13, r14, r15]) ⟨sm4, fe4, e4, L8, e14, rfl, okt_of (by decide +kernel), _, _, _, _, _, _, _, _, _, _, _, rfl⟩ (fun _ _ _ _ z => SqL.of z.2.2.1) ?_ ?_
    · rintro i y σ Hz hy ⟨sz, fz, e4z, ts, e1z, lts, okT, r2, r6, r7, r8, r9, r10, r11, r12, r13, r14, r15, rfl⟩
      obtain ⟨u, hu, rfl⟩ := Y7X.strs_at hy
      have mu := List.mem_of_getElem? hu
      have il := (List.getElem?_eq_some_iff.mp hu).1
      have bu : Bn 100 u := ⟨(okL.1 u mu).1, okL.2 u mu⟩
      have bnu := bnn.app bu
      refine ⟨.ref p1, rfl, .inl ⟨rfl, _, SqL.of e1z⟩, .str u, rfl, "none\n", u, rfl, rfl, bnn.sl bu, p1, _, _, rfl, rfl, e1z, by rw [List.length_map]; exact Nat.lt_of_le_of_lt (show ts.length ≤ 22000 by omega) (by decide), ?_⟩
      refine ⟨?_, fz.upd n1f, by rw [upd_ne n41]; exact e4z, ts ++ [("none\n" : Str) ++ u], ?_, by rw [List.length_append]; show ts.length + 1 = _; omega, OkT.app okT fun t ht => by rw [List.mem_singleton.mp ht]; exact ⟨bnu.1, Nat.le_trans bnu.2 (by decide)⟩, _, _, _, _, _, _, _, _, _, _, _, rfl⟩
      · exact Ch.old (Ch.put (f := p1)) n1H sz
      · rw [upd_same, List.map_append]; rfl
    clear sm4 fe4 e14 e4
    rintro σ H3 ⟨sm3, fe3, _, T1, eT1, lT1, okT1, r2, r6, r7, r8, r9, r10, r11, r12, r13, r14, r15, rfl⟩
    rw [List.length_map, ll] at lT1
    clear n41 okL ll
    refine ⟨.ref p1, rfl, by show 3 ≤ sizeLine; decide, fun q1 nq1 => ?_⟩
    have u1 := same_new (o := .lst ((["None\n0 1", "none\nNONE", "NONE\nnone"] : List Str).map V.str)) nq1
    refine ⟨p1, q1, _, _, rfl, rfl, u1 _ _ eT1, upd_same, by rw [List.length_map, lT1]; show 19 + 3 ≤ sizeLine; decide, fun q2 nq2 => ?_⟩
    have u2 := same_new (o := .lst (T1.map V.str ++ (["None\n0 1", "none\nNONE", "NONE\nnone"] : List Str).map V.str)) nq2
    refine ⟨.ref q2, rfl, .str FAR, rfl, "none\n-", FAR, rfl, rfl, bnm.sl hfar, _, " ", rfl, rfl, (bnm.app hfar).sl bb, .str FAR, rfl, _, FAR, rfl, rfl, ((bnm.app hfar).app bb).sl hfar, .str FAR, rfl, "none\n", FAR, rfl, rfl, bnn.sl hfar, _, "1", rfl, rfl, (bnn.app hfar).sl b1, by show 4 ≤ sizeLine; decide, fun q3 nq3 => ?_⟩
    have k1 := ((bnm.app hfar).app bb).app hfar
    have k2 := (bnn.app hfar).app b1
    have u3 := same_new (o := .lst (([((("none\n-" : Str) ++ FAR) ++ " ") ++ FAR, (("none\n" : Str) ++ FAR) ++ "1", "0:2\n0 1\n", "x\ny\nz"] : List Str).map V.str)) nq3
    refine ⟨q2, q3, _, _, rfl, rfl, u3 _ _ upd_same, upd_same, by rw [List.length_append, List.length_map, lT1]; show 19 + 3 + 4 ≤ sizeLine; decide, fun q4 nq4 => ?_⟩
    have u4 := same_new (o := .lst ((T1.map V.str ++ (["None\n0 1", "none\nNONE", "NONE\nnone"] : List Str).map V.str) ++ ([((("none\n-" : Str) ++ FAR) ++ " ") ++ FAR, (("none\n" : Str) ++ FAR) ++ "1", "0:2\n0 1\n", "x\ny\nz"] : List Str).map V.str)) nq4
    refine ⟨.ref q4, rfl, "9", 5000, rfl, rfl, by decide, by decide, by decide +kernel, by decide +kernel, "0:", _, rfl, rfl, b0c.sl br5, _, "\n0 1", rfl, rfl, (b0c.app br5).sl bn01, "9", 5000, rfl, rfl, by decide, by decide, by decide +kernel, by decide +kernel, "none\n", _, rfl, rfl, bnn.sl br5, by show 4 ≤ sizeLine; decide, fun q5 nq5 => ?_⟩
    have k3 := (b0c.app br5).app bn01
    have k4 := bnn.app br5
    have u5 := same_new (o := .lst (([(("0:" : Str) ++ GRS.repS "9" (5000 : Int).toNat) ++ "\n0 1", ("none\n" : Str) ++ GRS.repS "9" (5000 : Int).toNat, "none none\n0", "0:1\n0 1 0 1\nx"] : List Str).map V.str)) nq5
    refine ⟨q4, q5, _, _, rfl, rfl, u5 _ _ upd_same, upd_same, by rw [List.length_append, List.length_append, List.length_map, lT1]; show 19 + 3 + 4 + 4 ≤ sizeLine; decide, fun md nmd => ?_⟩
    obtain ⟨T2, hT2⟩ : ∃ T2 : List Str, T2 = ((T1 ++ (["None\n0 1", "none\nNONE", "NONE\nnone"] : List Str)) ++ [((("none\n-" : Str) ++ FAR) ++ " ") ++ FAR, (("none\n" : Str) ++ FAR) ++ "1", "0:2\n0 1\n", "x\ny\nz"]) ++ [(("0:" : Str) ++ GRS.repS "9" (5000 : Int).toNat) ++ "\n0 1", ("none\n" : Str) ++ GRS.repS "9" (5000 : Int).toNat, "none none\n0", "0:1\n0 1 0 1\nx"] := ⟨_, rfl⟩
    have okT : OkT T2 := by
      rw [hT2]
      refine OkT.app (OkT.app (OkT.app okT1 (okt_of (by decide +kernel))) fun t ht => ?_) fun t ht => ?_
      · simp only [List.mem_cons, List.not_mem_nil, or_false] at ht
        rcases ht with rfl | rfl | rfl | rfl
        · exact ⟨k1.1, Nat.le_trans k1.2 (by decide)⟩
        · exact ⟨k2.1, Nat.le_trans k2.2 (by decide)⟩
        · exact okt_of (ts := ["0:2\n0 1\n"]) (by decide +kernel) _ List.mem_cons_self
        · exact okt_of (ts := ["x\ny\nz"]) (by decide +kernel) _ List.mem_cons_self
      · simp only [List.mem_cons, List.not_mem_nil, or_false] at ht
        rcases ht with rfl | rfl | rfl | rfl
        · exact ⟨k3.1, Nat.le_trans k3.2 (by decide)⟩
        · exact ⟨k4.1, Nat.le_trans k4.2 (by decide)⟩
        · exact okt_of (ts := ["none none\n0"]) (by decide +kernel) _ List.mem_cons_self
        · exact okt_of (ts := ["0:1\n0 1 0 1\nx"]) (by decide +kernel) _ List.mem_cons_self
    have lT2 : T2.length = 30 := by rw [hT2]; simp [lT1]
    have hmdH : H md = none := sm3.free ((u1.trans (u2.trans (u3.trans (u4.trans u5)))).free nmd)
    have nmf : md ≠ f := (fe3.same (u1.trans (u2.trans (u3.trans (u4.trans u5))))).ne nmd
    have u6 := same_new (o := .lst (((T1.map V.str ++ (["None\n0 1", "none\nNONE", "NONE\nnone"] : List Str).map V.str) ++ ([((("none\n-" : Str) ++ FAR) ++ " ") ++ FAR, (("none\n" : Str) ++ FAR) ++ "1", "0:2\n0 1\n", "x\ny\nz"] : List Str).map V.str) ++ ([(("0:" : Str) ++ GRS.repS "9" (5000 : Int).toNat) ++ "\n0 1", ("none\n" : Str) ++ GRS.repS "9" (5000 : Int).toNat, "none none\n0", "0:1\n0 1 0 1\nx"] : List Str).map V.str)) nmd
    have sU := u1.trans (u2.trans (u3.trans (u4.trans (u5.trans u6))))
    refine ⟨20, rfl, by decide, by decide, for_range (lo := 0) (n := (20 : Int).toNat) (fun i σ Hz => Same H Hz ∧ FeedAt Hz f ∧ ∃ ts : List Str, Hz md = some (.lst (ts.map V.str)) ∧ ts.length = 30 + i ∧ OkT ts ∧ ∃ r2 r6 r7 r8 r9 r10 r11 r12 r13 r14 r15 : Option V, σ = [some (.ref a), some (.str FAR), r2, some (.ref f), some (.ref md), some (.ref p2), r6, r7, r8, r9, r10, r11, r12, r13, r14, r15]) ⟨sm3.trans sU, fe3.same sU, T2, upd_same.trans (by rw [hT2, List.map_append, List.map_append, List.map_append]; rfl), lT2, okT, _, _, _, _, _, _, _, _, _, _, _, rfl⟩ ?_ ?_⟩
    · clear u1 u2 u3 u4 u5 u6 okT k1 k2 k3 k4 sU sm3 fe3 hT2 lT2 okT1 eT1 lT1
      rintro t σ H4 ht ⟨sm, fe, ts, emd, lts, okT, r2, r6, r7, r8, r9, r10, r11, r12, r13, r14, r15, rfl⟩
      have ht20 : t < 20 := ht
      refine ⟨.ref f, rfl, f, 12, rfl, by decide, by decide, fe, fun H5 q ls c5 fe5 nq eq ll lb => ?_⟩
      have sm5 := Ch.old c5 hf0 sm
      have emd5 := c5 _ _ nmf emd
      clear c5 fe emd sm nq
      have lb2 : ∀ n ∈ ls, n.natAbs ≤ 1000000000 := fun n hn => by have := lb n hn; omega
      refine ⟨.ref f, rfl, .ref q, rfl, f, q, ls, rfl, SqL.of eq, by omega, fun H6 z q1 q2 ys cs ds rs s6 nz1 ez e1 pa perm srt e2 run nf => ⟨z, _, rfl, SqT.of ez, rfl, .ref q1, [.ref q2], rfl, .ref q2, [], rfl, rfl, ?_⟩⟩
      have cn : Cn ls ds rs := ⟨⟨cs, run, perm⟩, nf, srt⟩
      have cok := cn_ok cn lb2
      have cl := cn_len cn
      clear ez nz1 run nf perm srt
      have eq6 := s6 _ _ eq
      have yl := pa.length
      have dsm : ∀ r ∈ ds, r.1.natAbs < 2 ^ 39 ∧ r.2.natAbs < 2 ^ 39 := fun r hr => ⟨Nat.lt_of_le_of_lt (cok.ok r hr).2.1 (by decide), Nat.lt_of_le_of_lt (cok.ok r hr).2.2 (by decide)⟩
      have rsm : ∀ n ∈ rs, n.natAbs < 2 ^ 39 := fun n hn => Nat.lt_of_le_of_lt (cok.sm n hn) (by decide)
      have lbk : ((" " : Str)).length = 1 := by decide +kernel
      have lnl : (("\n" : Str)).length = 1 := by decide +kernel
      -- first
      refine ⟨⟨_, rfl⟩, .ref q1, rfl, q1, rfl, ⟨_, SqL.of e1⟩, fun D nD => ?_⟩
      refine lc_list (K := K) (a := q1) (xs := ys) (fun i Hz => Same H6 Hz ∧ Hz D = some (.lst (((ds.take i).map NZ.cw).map V.str))) ⟨same_new nD, upd_same⟩ (fun i Hz _ z => SqL.of (z.1 _ _ e1)) ?_ ?_
      · rintro i y Hz hy ⟨sz, eD⟩
        obtain ⟨r, p, hr1, rfl, hp2⟩ := Y7X.pr_at (pa.same sz) hy
        have mr := List.mem_of_getElem? hr1
        obtain ⟨d1, d2⟩ := dsm r mr
        have t1 := WN.ti_len d1
        have t2 := WN.ti_len d2
        have e1' : (NX.tI r.1).length = (WN.ti r.1).length := rfl
        have e2' : (NX.tI r.2).length = (WN.ti r.2).length := rfl
        have lc1 := WN.col_len
        have la : ((NX.tI r.1) ++ (":" : Str)).length = (NX.tI r.1).length + (":" : Str).length := WN.len_app _ _
        refine ⟨rfl, iteT (B := True) ⟨.ref p, rfl, p, _, 0, .int r.1, rfl, rfl, SqT.of hp2, at_of (j := 0) rfl rfl, r.1, rfl, WN.ti_log d1, NX.tI r.1, ":", rfl, rfl, Nat.le_trans (show _ ≤ 100 by omega) (by decide), .ref p, rfl, p, _, 1, .int r.2, rfl, rfl, SqT.of hp2, at_of (j := 1) rfl rfl, r.2, rfl, WN.ti_log d2, NX.tI r.1 ++ ":", NX.tI r.2, rfl, rfl, Nat.le_trans (show _ ≤ 100 by omega) (by decide), _, eD, ?_, same_again nD sz, ?_⟩⟩
        · rw [List.length_map, List.length_map, List.length_take]; exact Nat.lt_of_le_of_lt (show _ ≤ 3000 by omega) (by decide)
        · rw [upd_same, List.take_add_one, hr1, List.map_append, List.map_append]; rfl
      rintro H7 ⟨s7, eD⟩
      rw [yl, List.take_length] at eD
      have wC : ∀ x ∈ ds.map NZ.cw, x.length ≤ 27 := fun x hx => by
        obtain ⟨r, hr, e⟩ := List.mem_map.mp hx
        rw [← e, ← txC_cw]
        exact WN.txC_len (dsm r hr)
      refine ⟨_, D, ds.map NZ.cw, rfl, rfl, .inl (SqL.of eD), ?_, ?_⟩
      · have h1 := WN.sum_le (B := 27) wC
        rw [lbk, List.length_map] at *
        omega
      have e27 := s7 _ _ e2
      have s67 := s6.trans s7
      obtain ⟨A, hA⟩ : ∃ A, A = Txt.join " " (ds.map NZ.cw) := ⟨_, rfl⟩
      have lA : A.length ≤ 28 * 6 := by
        have h := WN.join_len (sep := " ") wC
        rw [lbk, List.length_map] at h
        rw [hA]
        omega
      rw [← hA]
      -- rows
      refine ⟨.str A, rfl, ⟨_, rfl⟩, .ref q2, rfl, q2, rfl, ⟨_, SqL.of e27⟩, fun D2 nD2 => ?_⟩
      refine lc_list (K := K) (a := q2) (xs := rs.map V.int) (fun i Hz => Same H7 Hz ∧ Hz D2 = some (.lst (((rs.take i).map NX.tI).map V.str))) ⟨same_new nD2, upd_same⟩ (fun i Hz _ z => SqL.of (z.1 _ _ e27)) ?_ ?_
      · rintro i y Hz hy ⟨sz, eD2⟩
        rw [List.getElem?_map] at hy
        obtain ⟨n, hn, rfl⟩ := Option.map_eq_some_iff.mp hy
        refine ⟨rfl, iteT (B := True) ⟨.int n, rfl, n, rfl, WN.ti_log (rsm n (List.mem_of_getElem? hn)), _, eD2, ?_, same_again nD2 sz, ?_⟩⟩
        · rw [List.length_map, List.length_map, List.length_take]; exact Nat.lt_of_le_of_lt (show _ ≤ 3000 by omega) (by decide)
        · rw [upd_same, List.take_add_one, hn, List.map_append, List.map_append]; rfl
      rintro H8 ⟨s8, eD2⟩
      rw [List.length_map, List.take_length] at eD2
      have wP : ∀ x ∈ rs.map NX.tI, x.length ≤ 13 := fun x hx => by
        obtain ⟨r, hr, e⟩ := List.mem_map.mp hx
        rw [← e]
        exact WN.ti_len (rsm r hr)
      refine ⟨_, D2, rs.map NX.tI, rfl, rfl, .inl (SqL.of eD2), ?_, ?_⟩
      · have h1 := WN.sum_le (B := 13) wP
        rw [lbk, List.length_map] at *
        omega
      obtain ⟨B, hB⟩ : ∃ B, B = Txt.join " " (rs.map NX.tI) := ⟨_, rfl⟩
      have lB : B.length ≤ 14 * 12 := by
        have h := WN.join_len (sep := " ") wP
        rw [lbk, List.length_map] at h
        rw [hB]
        omega
      rw [← hB]
      refine ⟨by show 2 ≤ sizeLine; decide, fun rw_ nrw => ?_⟩
      have s9 := same_new (o := .lst [.str A, .str B]) nrw
      have e9 := upd_same (H := H8) (a := rw_) (o := .lst [.str A, .str B])
      generalize upd H8 rw_ (.lst [.str A, .str B]) = H9 at s9 e9 ⊢
      -- text
      refine ⟨⟨_, rfl⟩, .ref rw_, rfl, rw_, rfl, ⟨_, SqL.of e9⟩, fun D3 nD3 => ?_⟩
      refine lc_list (K := K) (a := rw_) (xs := ([A, B] : List Str).map V.str) (fun i Hz => Same H9 Hz ∧ Hz D3 = some (.lst (((([A, B] : List Str).take i).map nz).map V.str))) ⟨same_new nD3, upd_same⟩ (fun i Hz _ z => SqL.of (z.1 _ _ e9)) ?_ ?_
      · rintro i y Hz hy ⟨sz, eD3⟩
        obtain ⟨u, hu, rfl⟩ := Y7X.strs_at hy
        have fin : ∃ xs, Hz D3 = some (.lst xs) ∧ xs.length < sizeLine ∧ (Same H9 (upd Hz D3 (.lst (xs ++ [.str (nz u)]))) ∧ (upd Hz D3 (.lst (xs ++ [.str (nz u)]))) D3 = some (.lst (((([A, B] : List Str).take (i + 1)).map nz).map V.str))) := by
          refine ⟨_, eD3, ?_, same_again nD3 sz, ?_⟩
          · rw [List.length_map, List.length_map, List.length_take]; exact Nat.lt_of_le_of_lt (show min i 2 ≤ 3000 by omega) (by decide)
          · rw [upd_same, List.take_add_one, hu, List.map_append, List.map_append]; rfl
        refine ⟨rfl, iteT (B := True) ⟨.str u, rfl, rfl, _, rfl, ?_⟩⟩
        by_cases hu0 : u = ""
        · rw [decide_eq_true (show V.str u = V.str "" from congrArg V.str hu0)]
          refine iteF ?_
          rw [show nz u = "none" from if_pos hu0] at fin
          exact fin
        · rw [decide_eq_false (show ¬ V.str u = V.str "" from fun z => hu0 (V.str.inj z))]
          refine iteT ⟨.str u, rfl, ?_⟩
          rw [show nz u = u from if_neg hu0] at fin
          exact fin
      rintro H10 ⟨s10, eD3⟩
      have eD3 : H10 D3 = some (.lst (([nz A, nz B] : List Str).map V.str)) := eD3
      rw [hA, hB, nz_C, nz_P] at eD3
      have hTx : (NZ.txt ds rs).length ≤ 400 := txt_len cok (by omega)
      refine ⟨_, D3, [NZ.rowC ds, NZ.rowP rs], rfl, rfl, .inl (SqL.of eD3), ?_, ?_⟩
      · have h := join_jl (y := "\n") lnl (vs := [NZ.rowC ds, NZ.rowP rs]) (by simp)
        have e3 : jl [NZ.rowC ds, NZ.rowP rs] = (([NZ.rowC ds, NZ.rowP rs] : List Str).map (·.length)).sum + 2 := rfl
        have e4 : (NZ.txt ds rs) = Str.join "\n" [NZ.rowC ds, NZ.rowP rs] := TL.join_eq _ _
        rw [e4] at hTx
        rw [lnl]
        show _ + 2 * 1 ≤ _
        omega
      have s610 := s7.trans (s8.trans (s9.trans s10))
      have s510 := s6.trans s610
      obtain ⟨TX, hT⟩ : ∃ TX, TX = NZ.txt ds rs := ⟨_, rfl⟩
      rw [show Txt.join "\n" [NZ.rowC ds, NZ.rowP rs] = TX from hT.symm]
      have lT : TX.length ≤ 400 := by rw [hT]; exact hTx
      have aT : Asc TX := by rw [hT]; exact txt_asc
      have eq10 := s510 _ _ eq
      have e110 := s610 _ _ e1
      have e210 := s610 _ _ e2
      have pa10 := pa.same s610
      clear s7 s8 s9 s10 s67 eD eD2 eD3 e9 hA hB lA lB wC wP e27 nD nD2 nD3 nrw pa e1 e2 eq eq6 s6 s610
      -- str(Count.of(load)) != text
      refine ⟨rfl, .ref q, rfl, q, ls, rfl, .inl (SqL.of eq10), by omega, fun H11 x cs3 ds3 rs3 s11 nx ca run3 nf3 perm3 srt3 => ?_⟩
      obtain ⟨e1, e2⟩ := cn_one rfl cn (⟨⟨cs3, run3, perm3⟩, nf3, srt3⟩ : Cn ls ds3 rs3)
      subst e1 e2
      obtain ⟨dx, k1, k2, hx⟩ := sat2 ca
      refine ⟨x, dx, _, rfl, hx, x, ds, rs, rfl, ca, ok_small cok (by omega) (by omega), fun H12 s12 => ⟨_, rfl, .str TX, rfl, rfl, _, rfl, ?_⟩⟩
      rw [decide_eq_true (show V.str (WN.txt ds rs) = V.str TX by rw [hT, txt_eq])]
      have s1012 := s11.trans s12
      refine iteF ⟨.str TX, rfl, .ref q, rfl, .ref q1, rfl, .ref q2, rfl, q1, q2, ys, ds, rs, rfl, s1012 _ _ e110, pa10.same s1012, s1012 _ _ e210, by omega, by omega, fun H13 h xs es s13 nh eh pe perm srt => ?_⟩
      have s1013 := s1012.trans s13
      refine ⟨TX, q, h, ls, xs, ds, es, rs, rfl, hT, by omega, cn, lb2, by omega, s1013 _ _ eq10, eh, pe, perm, srt, fun H14 s14 => ⟨_, rfl, iteF ?_⟩⟩
      have s514 := s510.trans (s1013.trans s14)
      have sm14 := sm5.trans s514
      have fe14 := fe5.same s514
      have emd14 := s514 _ _ emd5
      clear s514 s1013 s1012 s13 s14 s12 s11 sm5 fe5 emd5 eh pe perm srt e110 e210 pa10 eq10 s510 hx ca
      -- again
      refine ⟨.ref f, rfl, by show 5 ≤ sizeLine; decide, fun l nl => ?_⟩
      have sl := same_new (o := .lst [.int 0, .int 1, .int 1, .int 2, .int 3]) nl
      refine ⟨f, l, _, rfl, fe14.ne nl, SqL.of upd_same, by show 0 < 5; decide, by show 5 ≤ 1000; decide, fe14.same sl, fun H6 j v hv c6 fe6 => ?_⟩
      obtain ⟨n, rfl, hn⟩ : ∃ n : Nat, v = .int (n : Int) ∧ n ≤ 3 := by
        match j, hv with
        | 0, hv => exact ⟨0, (Option.some.inj hv).symm, by decide⟩
        | 1, hv => exact ⟨1, (Option.some.inj hv).symm, by decide⟩
        | 2, hv => exact ⟨1, (Option.some.inj hv).symm, by decide⟩
        | 3, hv => exact ⟨2, (Option.some.inj hv).symm, by decide⟩
        | 4, hv => exact ⟨3, (Option.some.inj hv).symm, by decide⟩
        | n + 5, hv => simp at hv
      have c56 : Ch f H14 H6 := (Ch.of_same sl).trans c6
      have sm6 := Ch.old c56 hf0 sm14
      have emd6 := c56 _ _ nmf emd14
      clear c6 c56 sl nl fe14 sm14 emd14
      refine ⟨(n : Int), rfl, by omega, by omega, for_range (lo := 0) (n := ((n : Int)).toNat) (fun i σ Hz => Ch f H6 Hz ∧ FeedAt Hz f ∧ ∃ x : Str, Asc x ∧ (i = 0 → x.length ≤ 400) ∧ (i = 1 → x.length ≤ 1260) ∧ (i = 2 → x.length ≤ 3840) ∧ x.length ≤ 11580 ∧ ∃ r2 r6 r7 r8 r9 r10 r11 r13 r14 r15 : Option V, σ = [some (.ref a), some (.str FAR), r2, some (.ref f), some (.ref md), some (.ref p2), r6, r7, r8, r9, r10, r11, some (.str x), r13, r14, r15]) ⟨Ch.refl _ _, fe6, TX, aT, fun _ => lT, fun z => (by cases z), fun z => (by cases z), (by omega), _, _, _, _, _, _, _, _, _, _, rfl⟩ ?_ ?_⟩
      · rintro i σ Hz hi ⟨cz, fz, x, ax, h0, h1, h2, h3, r2, r6, r7, r8, r9, r10, r11, r13, r14, r15, rfl⟩
        have hi3 : i < 3 := by omega
        have hx : x.length ≤ 3840 := by
          rcases (show i = 0 ∨ i = 1 ∨ i = 2 by omega) with k | k | k
          · have := h0 k; omega
          · have := h1 k; omega
          · exact h2 k
        refine ⟨.ref f, rfl, .str x, rfl, f, x, rfl, fz, by omega, ax, fun Hw y cw fw ly ay => ?_⟩
        refine ⟨cz.trans cw, fw, y, ay, fun z => absurd z (by omega), fun z => ?_, fun z => ?_, by omega, _, _, _, _, _, _, _, _, _, _, rfl⟩
        · have := h0 (by omega); omega
        · have := h1 (by omega); omega
      rintro σ H7 ⟨c7, fe7, x, ax, _, _, _, h3, r2, r6, r7, r8, r9, r10, r11, r13, r14, r15, rfl⟩
      have sm7 := Ch.old c7 hf0 sm6
      have emd7 := c7 _ _ nmf emd6
      refine ⟨.ref md, rfl, .inl ⟨rfl, _, SqL.of emd7⟩, .str x, rfl, md, _, _, rfl, rfl, emd7, by rw [List.length_map]; exact Nat.lt_of_le_of_lt (show ts.length ≤ 3000 by omega) (by decide), ?_⟩
      refine ⟨?_, fe7.upd nmf, ts ++ [x], ?_, by rw [List.length_append]; show ts.length + 1 = _; omega, OkT.app okT fun t ht => by rw [List.mem_singleton.mp ht]; exact ⟨ax, by omega⟩, _, _, _, _, _, _, _, _, _, _, _, rfl⟩
      · exact Ch.old (Ch.put (f := md)) hmdH sm7
      · rw [upd_same, List.map_append]; rfl
    clear u1 u2 u3 u4 u5 u6 okT k1 k2 k3 k4 sU
    rintro σ H5 ⟨sm, fe, ts, emd, lts, okT, r2, r6, r7, r8, r9, r10, r11, r12, r13, r14, r15, rfl⟩
    refine ⟨.ref md, rfl, md, rfl, ⟨_, SqL.of emd⟩, fun D nD => ?_⟩
    refine lc_list (K := K) (a := md) (xs := ts.map V.str) (fun i Hz => Same H5 Hz ∧ Hz D = some (.lst [])) ⟨same_new nD, upd_same⟩ (fun i Hz _ z => SqL.of (z.1 _ _ emd)) ?_ ?_
    · rintro i y Hz hy ⟨sz, eD⟩
      obtain ⟨x, hx, rfl⟩ := Y7X.strs_at hy
      obtain ⟨ax, lx⟩ := okT x (List.mem_of_getElem? hx)
      have hsh : (∃ z, tld x = .str z ∧ z.length ≤ 100000 ∧ ∀ c ∈ TL.tl z, c < 128) ∨ ∃ i : Int, tld x = .int i ∧ i.natAbs.log2 < 1920 := by
        cases k : pcn x with
        | inr c => exact .inl ⟨x, tld_ok k, by omega, ax⟩
        | inl j => exact .inr ⟨(j : Int), tld_bad k, WN.ti_log (by have := tld_log k; omega)⟩
      refine ⟨rfl, .str x, rfl, x, rfl, lx, fun H6 s6 => ⟨_, rfl, hsh, .str x, rfl, x, rfl, lx, ax, fun H7 s7 => ⟨_, rfl, hsh, rfl, _, rfl, ?_⟩⟩⟩
      rw [decide_eq_true rfl]
      exact iteF ⟨sz.trans (s6.trans s7), (s6.trans s7) _ _ eD⟩
    rintro H6 ⟨s6, eD⟩
    refine ⟨Nat.zero_le _, fun z nz => ?_⟩
    have sz := same_new (o := .lst []) nz
    refine ⟨.list [], .list [], .lst (SqL.of (sz _ _ eD)) .nil, .lst (SqL.of upd_same) .nil, shaped_lst [], shaped_lst [], _, rfl, ?_⟩
    exact iteF ⟨sm.trans (s6.trans sz), _, _, _, _, _, _, _, _, _, _, _, _, _, _, rfl⟩
end
end Y7W

set_option pp.maxSteps 300
namespace Y7E0
open PySem PySem.Spec PyProof.Rows L2 KA KD KL PH PM PA PB PC RM RN RS RJ QE QF QG QH QK QL XE Y7X Y7R Y7C2 UJN
open NZ (allS)
open K9 (Cn cn_one)
open Y7W
theorem all_mk {l : PySem.W.OpenLaw} {w : World} {K : PySem.W.Frag} {h : Heap} {mg : Str → Option Value} {fa fCO fRG fTP fIL fBT fSW fNU fRD fNL fRO fMT fPB fCN fAL fOU fCR fPW fCY fCI fPT fFE fTA fPI fLO fLP fLR fLH fPL fCT fHV fLN fLC fDU fTO fRR fCH CT_ fIN pO fOF pP fPA pSJN fJN pC fPC pR fPR_ p3 fPH fPG fEQ fST fLAW : Addr} {C CW fEI ccE cdaE NE : Addr} {odE anE cldE cddE ddE : Option Addr} {slE cslE ccsE : Array (Option Value)} {vsE : Array Value} {kVE dcE pmE ctE ocE clE cclE : Value} {fileE : Str} {tfE : Tok} {nmE qE : Str} {bsE subE : List Value} {snE : List Str} {abE : Bool} {colE : Option Bool} {m0E m1E m2E m3E m5E : Option Value} (X : K.In h) (G : h.Ns mainGlobals mg) (hfa : mg "law" = some (.ref fa))
    {odCO anCO odRG anRG odTP anTP odIL anIL odBT anBT odSW anSW odNU anNU odRD anRD odNL anNL odRO anRO odMT anMT odPB anPB odCN anCN odAL anAL odOU anOU odCR anCR odPW anPW odCY anCY odCI anCI odPT anPT odFE anFE odTA anTA odPI anPI odLO anLO odLP anLP odLR anLR odLH anLH odPL anPL odCT anCT odHV anHV odLN anLN odLC anLC odDU anDU odTO anTO odRR anRR odCH anCH odIN anIN odOF anOF odPA anPA odJN anJN odPC anPC odPR_ anPR_ odPH anPH odPG anPG odEQ anEQ odST anST odLAW anLAW : Option Addr} {slCO slRG slTP slIL slBT slSW slNU slRD slNL slRO slMT slPB slCN slAL slOU slCR slPW slCY slCI slPT slFE slTA slPI slLO slLP slLR slLH slPL slCT slHV slLN slLC slDU slTO slRR slCH slIN slOF slPA slJN slPC slPR_ slPH slPG slEQ slST slLAW : Array (Option Value)} {ocCO dcCO pmCO cdCO ctCO kVCO ocRG dcRG pmRG cdRG ctRG kVRG ocTP dcTP pmTP cdTP ctTP kVTP ocIL dcIL pmIL cdIL ctIL kVIL ocBT dcBT pmBT cdBT ctBT kVBT ocSW dcSW pmSW cdSW ctSW kVSW ocNU dcNU pmNU cdNU ctNU kVNU ocRD dcRD pmRD cdRD ctRD kVRD ocNL dcNL pmNL cdNL ctNL kVNL ocRO dcRO pmRO cdRO ctRO kVRO ocMT dcMT pmMT cdMT ctMT kVMT ocPB dcPB pmPB cdPB ctPB kVPB ocCN dcCN pmCN cdCN ctCN kVCN ocAL dcAL pmAL cdAL ctAL kVAL ocOU dcOU pmOU cdOU ctOU kVOU ocCR dcCR pmCR cdCR ctCR kVCR ocPW dcPW pmPW cdPW ctPW kVPW ocCY dcCY pmCY cdCY ctCY kVCY ocCI dcCI pmCI cdCI ctCI kVCI ocPT dcPT pmPT cdPT ctPT kVPT ocFE dcFE pmFE cdFE ctFE kVFE ocTA dcTA pmTA cdTA ctTA kVTA ocPI dcPI pmPI cdPI ctPI kVPI ocLO dcLO pmLO cdLO ctLO kVLO ocLP dcLP pmLP cdLP ctLP kVLP ocLR dcLR pmLR cdLR ctLR kVLR ocLH dcLH pmLH cdLH ctLH kVLH ocPL dcPL pmPL cdPL ctPL kVPL ocCT dcCT pmCT cdCT ctCT kVCT ocHV dcHV pmHV cdHV ctHV kVHV ocLN dcLN pmLN cdLN ctLN kVLN ocLC dcLC pmLC cdLC ctLC kVLC ocDU dcDU pmDU cdDU ctDU kVDU ocTO dcTO pmTO cdTO ctTO kVTO ocRR dcRR pmRR cdRR ctRR kVRR ocCH dcCH pmCH cdCH ctCH kVCH ocIN dcIN pmIN cdIN ctIN kVIN ocOF dcOF pmOF cdOF ctOF kVOF ocPA dcPA pmPA cdPA ctPA kVPA ocJN dcJN pmJN cdJN ctJN kVJN ocPC dcPC pmPC cdPC ctPC kVPC ocPR_ dcPR_ pmPR_ cdPR_ ctPR_ kVPR_ ocPH dcPH pmPH cdPH ctPH kVPH ocPG dcPG pmPG cdPG ctPG kVPG ocEQ dcEQ pmEQ cdEQ ctEQ kVEQ ocST dcST pmST cdST ctST kVST vgN vgLIM vgLON ocLAW dcLAW pmLAW cdLAW ctLAW kVLAW : Value} {rOF rPA rJN rPC rPR_ rPH : List Value}
    (aCO : PySem.W.nsIn K mainGlobals "contains" = some (some (.ref fCO)))
    (lCO : K.lookup fCO = some ⟨ocCO, odCO, .func (PySem.W.fnOf "contains" "contains" (defArgs sCont) (defBody sCont) (defScope sCont) .none kVCO dcCO pmCO anCO cdCO ctCO), slCO⟩)
    (cCO : PySem.W.codeIn K cdCO "contains" = true)
    (kCO : PySem.W.keepIn K (.ref fCO) = true)
    (aRG : PySem.W.nsIn K mainGlobals "range_of" = some (some (.ref fRG)))
    (lRG : K.lookup fRG = some ⟨ocRG, odRG, .func (PySem.W.fnOf "range_of" "range_of" (defArgs sRng) (defBody sRng) (defScope sRng) .none kVRG dcRG pmRG anRG cdRG ctRG), slRG⟩)
    (cRG : PySem.W.codeIn K cdRG "range_of" = true)
    (kRG : PySem.W.keepIn K (.ref fRG) = true)
    (aTP : PySem.W.nsIn K mainGlobals "turning_points" = some (some (.ref fTP)))
    (lTP : K.lookup fTP = some ⟨ocTP, odTP, .func (PySem.W.fnOf "turning_points" "turning_points" (defArgs sTP) (defBody sTP) (defScope sTP) .none kVTP dcTP pmTP anTP cdTP ctTP), slTP⟩)
    (cTP : PySem.W.codeIn K cdTP "turning_points" = true)
    (kTP : PySem.W.keepIn K (.ref fTP) = true)
    (aIL : PySem.W.nsIn K mainGlobals "is_left_out" = some (some (.ref fIL)))
    (lIL : K.lookup fIL = some ⟨ocIL, odIL, .func (PySem.W.fnOf "is_left_out" "is_left_out" (defArgs sLO) (defBody sLO) (defScope sLO) .none kVIL dcIL pmIL anIL cdIL ctIL), slIL⟩)
    (cIL : PySem.W.codeIn K cdIL "is_left_out" = true)
    (kIL : PySem.W.keepIn K (.ref fIL) = true)
    (aBT : PySem.W.nsIn K mainGlobals "_lies_between" = some (some (.ref fBT)))
    (lBT : K.lookup fBT = some ⟨ocBT, odBT, .func (PySem.W.fnOf "_lies_between" "_lies_between" (defArgs sBtw) (defBody sBtw) (defScope sBtw) .none kVBT dcBT pmBT anBT cdBT ctBT), slBT⟩)
    (cBT : PySem.W.codeIn K cdBT "_lies_between" = true)
    (kBT : PySem.W.keepIn K (.ref fBT) = true)
    (aSW : PySem.W.nsIn K mainGlobals "swings" = some (some (.ref fSW)))
    (lSW : K.lookup fSW = some ⟨ocSW, odSW, .func (PySem.W.fnOf "swings" "swings" (defArgs sSw) (defBody sSw) (defScope sSw) .none kVSW dcSW pmSW anSW cdSW ctSW), slSW⟩)
    (cSW : PySem.W.codeIn K cdSW "swings" = true)
    (kSW : PySem.W.keepIn K (.ref fSW) = true)
    (aNU : PySem.W.nsIn K mainGlobals "is_number" = some (some (.ref fNU)))
    (lNU : K.lookup fNU = some ⟨ocNU, odNU, .func (PySem.W.fnOf "is_number" "is_number" (defArgs Y7X.sNU) (defBody Y7X.sNU) (defScope Y7X.sNU) .none kVNU dcNU pmNU anNU cdNU ctNU), slNU⟩)
    (cNU : PySem.W.codeIn K cdNU "is_number" = true)
    (kNU : PySem.W.keepIn K (.ref fNU) = true)
    (aRD : PySem.W.nsIn K mainGlobals "is_reading" = some (some (.ref fRD)))
    (lRD : K.lookup fRD = some ⟨ocRD, odRD, .func (PySem.W.fnOf "is_reading" "is_reading" (defArgs Y7X.sRD) (defBody Y7X.sRD) (defScope Y7X.sRD) .none kVRD dcRD pmRD anRD cdRD ctRD), slRD⟩)
    (cRD : PySem.W.codeIn K cdRD "is_reading" = true)
    (kRD : PySem.W.keepIn K (.ref fRD) = true)
    (aNL : PySem.W.nsIn K mainGlobals "is_numeral" = some (some (.ref fNL)))
    (lNL : K.lookup fNL = some ⟨ocNL, odNL, .func (PySem.W.fnOf "is_numeral" "is_numeral" (defArgs Y7X.sNM) (defBody Y7X.sNM) (defScope Y7X.sNM) .none kVNL dcNL pmNL anNL cdNL ctNL), slNL⟩)
    (cNL : PySem.W.codeIn K cdNL "is_numeral" = true)
    (kNL : PySem.W.keepIn K (.ref fNL) = true)
    (aRO : PySem.W.nsIn K mainGlobals "reading_of" = some (some (.ref fRO)))
    (lRO : K.lookup fRO = some ⟨ocRO, odRO, .func (PySem.W.fnOf "reading_of" "reading_of" (defArgs Y7X.sRO) (defBody Y7X.sRO) (defScope Y7X.sRO) .none kVRO dcRO pmRO anRO cdRO ctRO), slRO⟩)
    (cRO : PySem.W.codeIn K cdRO "reading_of" = true)
    (kRO : PySem.W.keepIn K (.ref fRO) = true)
    (aMT : PySem.W.nsIn K mainGlobals "_may_be_taken" = some (some (.ref fMT)))
    (lMT : K.lookup fMT = some ⟨ocMT, odMT, .func (PySem.W.fnOf "_may_be_taken" "_may_be_taken" (defArgs sMT) (defBody sMT) (defScope sMT) .none kVMT dcMT pmMT anMT cdMT ctMT), slMT⟩)
    (cMT : PySem.W.codeIn K cdMT "_may_be_taken" = true)
    (kMT : PySem.W.keepIn K (.ref fMT) = true)
    (aPB : PySem.W.nsIn K mainGlobals "put_behind" = some (some (.ref fPB)))
    (lPB : K.lookup fPB = some ⟨ocPB, odPB, .func (PySem.W.fnOf "put_behind" "put_behind" (defArgs sPB) (defBody sPB) (defScope sPB) .none kVPB dcPB pmPB anPB cdPB ctPB), slPB⟩)
    (cPB : PySem.W.codeIn K cdPB "put_behind" = true)
    (kPB : PySem.W.keepIn K (.ref fPB) = true)
    (aCN : PySem.W.nsIn K mainGlobals "_counted" = some (some (.ref fCN)))
    (lCN : K.lookup fCN = some ⟨ocCN, odCN, .func (PySem.W.fnOf "_counted" "_counted" (defArgs sCo) (defBody sCo) (defScope sCo) .none kVCN dcCN pmCN anCN cdCN ctCN), slCN⟩)
    (cCN : PySem.W.codeIn K cdCN "_counted" = true)
    (kCN : PySem.W.keepIn K (.ref fCN) = true)
    (aAL : PySem.W.nsIn K mainGlobals "are_left" = some (some (.ref fAL)))
    (lAL : K.lookup fAL = some ⟨ocAL, odAL, .func (PySem.W.fnOf "are_left" "are_left" (defArgs Y7X.sAL) (defBody Y7X.sAL) (defScope Y7X.sAL) .none kVAL dcAL pmAL anAL cdAL ctAL), slAL⟩)
    (cAL : PySem.W.codeIn K cdAL "are_left" = true)
    (kAL : PySem.W.keepIn K (.ref fAL) = true)
    (aOU : PySem.W.nsIn K mainGlobals "cycles_outside" = some (some (.ref fOU)))
    (lOU : K.lookup fOU = some ⟨ocOU, odOU, .func (PySem.W.fnOf "cycles_outside" "cycles_outside" (defArgs Y7X.sOU) (defBody Y7X.sOU) (defScope Y7X.sOU) .none kVOU dcOU pmOU anOU cdOU ctOU), slOU⟩)
    (cOU : PySem.W.codeIn K cdOU "cycles_outside" = true)
    (kOU : PySem.W.keepIn K (.ref fOU) = true)
    (aCR : PySem.W.nsIn K mainGlobals "cycles_row" = some (some (.ref fCR)))
    (lCR : K.lookup fCR = some ⟨ocCR, odCR, .func (PySem.W.fnOf "cycles_row" "cycles_row" (defArgs WN.sCR) (defBody WN.sCR) (defScope WN.sCR) .none kVCR dcCR pmCR anCR cdCR ctCR), slCR⟩)
    (cCR : PySem.W.codeIn K cdCR "cycles_row" = true)
    (kCR : PySem.W.keepIn K (.ref fCR) = true)
    (aPW : PySem.W.nsIn K mainGlobals "points_row" = some (some (.ref fPW)))
    (lPW : K.lookup fPW = some ⟨ocPW, odPW, .func (PySem.W.fnOf "points_row" "points_row" (defArgs WN.sPRw) (defBody WN.sPRw) (defScope WN.sPRw) .none kVPW dcPW pmPW anPW cdPW ctPW), slPW⟩)
    (cPW : PySem.W.codeIn K cdPW "points_row" = true)
    (kPW : PySem.W.keepIn K (.ref fPW) = true)
    (aCY : PySem.W.nsIn K mainGlobals "_cycles_in" = some (some (.ref fCY)))
    (lCY : K.lookup fCY = some ⟨ocCY, odCY, .func (PySem.W.fnOf "_cycles_in" "_cycles_in" (defArgs Y7X.sCY) (defBody Y7X.sCY) (defScope Y7X.sCY) .none kVCY dcCY pmCY anCY cdCY ctCY), slCY⟩)
    (cCY : PySem.W.codeIn K cdCY "_cycles_in" = true)
    (kCY : PySem.W.keepIn K (.ref fCY) = true)
    (aCI : PySem.W.nsIn K mainGlobals "_cycle_in" = some (some (.ref fCI)))
    (lCI : K.lookup fCI = some ⟨ocCI, odCI, .func (PySem.W.fnOf "_cycle_in" "_cycle_in" (defArgs Y7X.sCI) (defBody Y7X.sCI) (defScope Y7X.sCI) .none kVCI dcCI pmCI anCI cdCI ctCI), slCI⟩)
    (cCI : PySem.W.codeIn K cdCI "_cycle_in" = true)
    (kCI : PySem.W.keepIn K (.ref fCI) = true)
    (aPT : PySem.W.nsIn K mainGlobals "_points_in" = some (some (.ref fPT)))
    (lPT : K.lookup fPT = some ⟨ocPT, odPT, .func (PySem.W.fnOf "_points_in" "_points_in" (defArgs Y7X.sPT) (defBody Y7X.sPT) (defScope Y7X.sPT) .none kVPT dcPT pmPT anPT cdPT ctPT), slPT⟩)
    (cPT : PySem.W.codeIn K cdPT "_points_in" = true)
    (kPT : PySem.W.keepIn K (.ref fPT) = true)
    (aFE : PySem.W.nsIn K mainGlobals "_law_feed" = some (some (.ref fFE)))
    (lFE : K.lookup fFE = some ⟨ocFE, odFE, .func (PySem.W.fnOf "_law_feed" "_law_feed" (defArgs sFeed) (defBody sFeed) (defScope sFeed) .none kVFE dcFE pmFE anFE cdFE ctFE), slFE⟩)
    (cFE : PySem.W.codeIn K cdFE "_law_feed" = true)
    (kFE : PySem.W.keepIn K (.ref fFE) = true)
    (aTA : PySem.W.nsIn K mainGlobals "_law_take" = some (some (.ref fTA)))
    (lTA : K.lookup fTA = some ⟨ocTA, odTA, .func (PySem.W.fnOf "_law_take" "_law_take" (defArgs sTake) (defBody sTake) (defScope sTake) .none kVTA dcTA pmTA anTA cdTA ctTA), slTA⟩)
    (cTA : PySem.W.codeIn K cdTA "_law_take" = true)
    (kTA : PySem.W.keepIn K (.ref fTA) = true)
    (aPI : PySem.W.nsIn K mainGlobals "_law_pick" = some (some (.ref fPI)))
    (lPI : K.lookup fPI = some ⟨ocPI, odPI, .func (PySem.W.fnOf "_law_pick" "_law_pick" (defArgs sPick) (defBody sPick) (defScope sPick) .none kVPI dcPI pmPI anPI cdPI ctPI), slPI⟩)
    (cPI : PySem.W.codeIn K cdPI "_law_pick" = true)
    (kPI : PySem.W.keepIn K (.ref fPI) = true)
    (aLO : PySem.W.nsIn K mainGlobals "_law_load" = some (some (.ref fLO)))
    (lLO : K.lookup fLO = some ⟨ocLO, odLO, .func (PySem.W.fnOf "_law_load" "_law_load" (defArgs sLoad) (defBody sLoad) (defScope sLoad) .none kVLO dcLO pmLO anLO cdLO ctLO), slLO⟩)
    (cLO : PySem.W.codeIn K cdLO "_law_load" = true)
    (kLO : PySem.W.keepIn K (.ref fLO) = true)
    (aLP : PySem.W.nsIn K mainGlobals "_law_points" = some (some (.ref fLP)))
    (lLP : K.lookup fLP = some ⟨ocLP, odLP, .func (PySem.W.fnOf "_law_points" "_law_points" (defArgs WF2.sLP) (defBody WF2.sLP) (defScope WF2.sLP) .none kVLP dcLP pmLP anLP cdLP ctLP), slLP⟩)
    (cLP : PySem.W.codeIn K cdLP "_law_points" = true)
    (kLP : PySem.W.keepIn K (.ref fLP) = true)
    (aLR : PySem.W.nsIn K mainGlobals "_law_range" = some (some (.ref fLR)))
    (lLR : K.lookup fLR = some ⟨ocLR, odLR, .func (PySem.W.fnOf "_law_range" "_law_range" (defArgs WP.sLR) (defBody WP.sLR) (defScope WP.sLR) .none kVLR dcLR pmLR anLR cdLR ctLR), slLR⟩)
    (cLR : PySem.W.codeIn K cdLR "_law_range" = true)
    (kLR : PySem.W.keepIn K (.ref fLR) = true)
    (aLH : PySem.W.nsIn K mainGlobals "_law_holds" = some (some (.ref fLH)))
    (lLH : K.lookup fLH = some ⟨ocLH, odLH, .func (PySem.W.fnOf "_law_holds" "_law_holds" (defArgs WP.sLH) (defBody WP.sLH) (defScope WP.sLH) .none kVLH dcLH pmLH anLH cdLH ctLH), slLH⟩)
    (cLH : PySem.W.codeIn K cdLH "_law_holds" = true)
    (kLH : PySem.W.keepIn K (.ref fLH) = true)
    (aPL : PySem.W.nsIn K mainGlobals "_law_places" = some (some (.ref fPL)))
    (lPL : K.lookup fPL = some ⟨ocPL, odPL, .func (PySem.W.fnOf "_law_places" "_law_places" (defArgs WP.sPl) (defBody WP.sPl) (defScope WP.sPl) .none kVPL dcPL pmPL anPL cdPL ctPL), slPL⟩)
    (cPL : PySem.W.codeIn K cdPL "_law_places" = true)
    (kPL : PySem.W.keepIn K (.ref fPL) = true)
    (aCT : PySem.W.nsIn K mainGlobals "_law_count" = some (some (.ref fCT)))
    (lCT : K.lookup fCT = some ⟨ocCT, odCT, .func (PySem.W.fnOf "_law_count" "_law_count" (defArgs WP.sCt) (defBody WP.sCt) (defScope WP.sCt) .none kVCT dcCT pmCT anCT cdCT ctCT), slCT⟩)
    (cCT : PySem.W.codeIn K cdCT "_law_count" = true)
    (kCT : PySem.W.keepIn K (.ref fCT) = true)
    (aHV : PySem.W.nsIn K mainGlobals "_law_halves" = some (some (.ref fHV)))
    (lHV : K.lookup fHV = some ⟨ocHV, odHV, .func (PySem.W.fnOf "_law_halves" "_law_halves" (defArgs WP.sHv) (defBody WP.sHv) (defScope WP.sHv) .none kVHV dcHV pmHV anHV cdHV ctHV), slHV⟩)
    (cHV : PySem.W.codeIn K cdHV "_law_halves" = true)
    (kHV : PySem.W.keepIn K (.ref fHV) = true)
    (aLN : PySem.W.nsIn K mainGlobals "_law_number" = some (some (.ref fLN)))
    (lLN : K.lookup fLN = some ⟨ocLN, odLN, .func (PySem.W.fnOf "_law_number" "_law_number" (defArgs Y7R.sLN) (defBody Y7R.sLN) (defScope Y7R.sLN) .none kVLN dcLN pmLN anLN cdLN ctLN), slLN⟩)
    (cLN : PySem.W.codeIn K cdLN "_law_number" = true)
    (kLN : PySem.W.keepIn K (.ref fLN) = true)
    (aLC : PySem.W.nsIn K mainGlobals "_law_cycles" = some (some (.ref fLC)))
    (lLC : K.lookup fLC = some ⟨ocLC, odLC, .func (PySem.W.fnOf "_law_cycles" "_law_cycles" (defArgs Y7R.sLC) (defBody Y7R.sLC) (defScope Y7R.sLC) .none kVLC dcLC pmLC anLC cdLC ctLC), slLC⟩)
    (cLC : PySem.W.codeIn K cdLC "_law_cycles" = true)
    (kLC : PySem.W.keepIn K (.ref fLC) = true)
    (aDU : PySem.W.nsIn K mainGlobals "_law_due" = some (some (.ref fDU)))
    (lDU : K.lookup fDU = some ⟨ocDU, odDU, .func (PySem.W.fnOf "_law_due" "_law_due" (defArgs Y7R.sDU) (defBody Y7R.sDU) (defScope Y7R.sDU) .none kVDU dcDU pmDU anDU cdDU ctDU), slDU⟩)
    (cDU : PySem.W.codeIn K cdDU "_law_due" = true)
    (kDU : PySem.W.keepIn K (.ref fDU) = true)
    (aTO : PySem.W.nsIn K mainGlobals "_law_told" = some (some (.ref fTO)))
    (lTO : K.lookup fTO = some ⟨ocTO, odTO, .func (PySem.W.fnOf "_law_told" "_law_told" (defArgs Y7R.sTO) (defBody Y7R.sTO) (defScope Y7R.sTO) .none kVTO dcTO pmTO anTO cdTO ctTO), slTO⟩)
    (cTO : PySem.W.codeIn K cdTO "_law_told" = true)
    (kTO : PySem.W.keepIn K (.ref fTO) = true)
    (aRR : PySem.W.nsIn K mainGlobals "_law_read_right" = some (some (.ref fRR)))
    (lRR : K.lookup fRR = some ⟨ocRR, odRR, .func (PySem.W.fnOf "_law_read_right" "_law_read_right" (defArgs Y7R.sRR) (defBody Y7R.sRR) (defScope Y7R.sRR) .none kVRR dcRR pmRR anRR cdRR ctRR), slRR⟩)
    (cRR : PySem.W.codeIn K cdRR "_law_read_right" = true)
    (kRR : PySem.W.keepIn K (.ref fRR) = true)
    (aCH : PySem.W.nsIn K mainGlobals "_law_changed" = some (some (.ref fCH)))
    (lCH : K.lookup fCH = some ⟨ocCH, odCH, .func (PySem.W.fnOf "_law_changed" "_law_changed" (defArgs Y7C2.sCH) (defBody Y7C2.sCH) (defScope Y7C2.sCH) .none kVCH dcCH pmCH anCH cdCH ctCH), slCH⟩)
    (cCH : PySem.W.codeIn K cdCH "_law_changed" = true)
    (kCH : PySem.W.keepIn K (.ref fCH) = true)
    (aC : PySem.W.nsIn K mainGlobals "Count" = some (some (.ref CT_)))
    (pg : PySem.W.plainGet K CT_ Str.empty = true)
    (hd : PySem.W.hasDictIn K CT_ = true)
    (po : PySem.W.plainOver K CT_ = true)
    (sa : PySem.W.findIn K (.ref CT_) "__setattr__" = some (some (.builtin "object.__setattr__")))
    (na0 : PySem.W.findIn K (.ref CT_) "_cycles" = some none)
    (na1 : PySem.W.findIn K (.ref CT_) "_rest" = some none)
    (mk : PySem.W.makesIn K CT_ = true)
    (kc : PySem.W.keepIn K (.ref CT_) = true)
    (aI : PySem.W.findIn K (.ref CT_) "__init__" = some (some (.ref fIN)))
    (iI : PySem.W.isFn K (.ref fIN) = true)
    (lIN : K.lookup fIN = some ⟨ocIN, odIN, .func (PySem.W.fnOf "__init__" "Count.__init__" (defArgs sInit) (defBody sInit) (defScope sInit) .none kVIN dcIN pmIN anIN cdIN ctIN), slIN⟩)
    (cIN : PySem.W.codeIn K cdIN "Count.__init__" = true)
    (kIN : PySem.W.keepIn K (.ref fIN) = true)
    (rdOF : PySem.W.readsIn K CT_ (.type "type") = true)
    (gaOF : PySem.W.specialIn K (.ref CT_) "__getattribute__" = some (some (.builtin "type.__getattribute__")))
    (aOF : PySem.W.findCls K (.ref CT_) (.type "type") "of" = some (.get (.builtin "classmethod.__get__") (.ref pO) .none (.ref CT_)))
    (rcOF : PySem.W.recIn K pO "classmethod" = some (.ref fOF :: rOF))
    (fiOF : PySem.W.fnIn K fOF = true)
    (lOF : K.lookup fOF = some ⟨ocOF, odOF, .func (PySem.W.fnOf "of" "Count.of" (defArgs sOf) (defBody sOf) (defScope sOf) .none kVOF dcOF pmOF anOF cdOF ctOF), slOF⟩)
    (cOF : PySem.W.codeIn K cdOF "Count.of" = true)
    (kOF : PySem.W.keepIn K (.ref fOF) = true)
    (aPA : PySem.W.findCls K (.ref CT_) (.type "type") "parse" = some (.get (.builtin "classmethod.__get__") (.ref pP) .none (.ref CT_)))
    (rcPA : PySem.W.recIn K pP "classmethod" = some (.ref fPA :: rPA))
    (fiPA : PySem.W.fnIn K fPA = true)
    (lPA : K.lookup fPA = some ⟨ocPA, odPA, .func (PySem.W.fnOf "parse" "Count.parse" (defArgs Y7X.sPA) (defBody Y7X.sPA) (defScope Y7X.sPA) .none kVPA dcPA pmPA anPA cdPA ctPA), slPA⟩)
    (cPA : PySem.W.codeIn K cdPA "Count.parse" = true)
    (kPA : PySem.W.keepIn K (.ref fPA) = true)
    (aJN : PySem.W.findCls K (.ref CT_) (.type "type") "joined" = some (.get (.builtin "staticmethod.__get__") (.ref pSJN) .none (.ref CT_)))
    (rcJN : PySem.W.recIn K pSJN "staticmethod" = some (.ref fJN :: rJN))
    (lJN : K.lookup fJN = some ⟨ocJN, odJN, .func (PySem.W.fnOf "joined" "Count.joined" (defArgs sJN) (defBody sJN) (defScope sJN) .none kVJN dcJN pmJN anJN cdJN ctJN), slJN⟩)
    (cJN : PySem.W.codeIn K cdJN "Count.joined" = true)
    (kJN : PySem.W.keepIn K (.ref fJN) = true)
    (aPPC : PySem.W.findIn K (.ref CT_) "cycles" = some (some (.ref pC)))
    (gPPC : PySem.W.specialIn K (.ref pC) "__get__" = some (some (.builtin "property.__get__")))
    (tPPC : PySem.W.takesIn K (.ref pC) = some true)
    (rcPPC : PySem.W.recIn K pC "property" = some (.ref fPC :: rPC))
    (lPC : K.lookup fPC = some ⟨ocPC, odPC, .func (PySem.W.fnOf "cycles" "Count.cycles" (defArgs sPC) (defBody sPC) (defScope sPC) .none kVPC dcPC pmPC anPC cdPC ctPC), slPC⟩)
    (cPC : PySem.W.codeIn K cdPC "Count.cycles" = true)
    (kPC : PySem.W.keepIn K (.ref fPC) = true)
    (aPPR_ : PySem.W.findIn K (.ref CT_) "rest" = some (some (.ref pR)))
    (gPPR_ : PySem.W.specialIn K (.ref pR) "__get__" = some (some (.builtin "property.__get__")))
    (tPPR_ : PySem.W.takesIn K (.ref pR) = some true)
    (rcPPR_ : PySem.W.recIn K pR "property" = some (.ref fPR_ :: rPR_))
    (lPR_ : K.lookup fPR_ = some ⟨ocPR_, odPR_, .func (PySem.W.fnOf "rest" "Count.rest" (defArgs sPR) (defBody sPR) (defScope sPR) .none kVPR_ dcPR_ pmPR_ anPR_ cdPR_ ctPR_), slPR_⟩)
    (cPR_ : PySem.W.codeIn K cdPR_ "Count.rest" = true)
    (kPR_ : PySem.W.keepIn K (.ref fPR_) = true)
    (aPPH : PySem.W.findIn K (.ref CT_) "half_cycles" = some (some (.ref p3)))
    (gPPH : PySem.W.specialIn K (.ref p3) "__get__" = some (some (.builtin "property.__get__")))
    (tPPH : PySem.W.takesIn K (.ref p3) = some true)
    (rcPPH : PySem.W.recIn K p3 "property" = some (.ref fPH :: rPH))
    (lPH : K.lookup fPH = some ⟨ocPH, odPH, .func (PySem.W.fnOf "half_cycles" "Count.half_cycles" (defArgs sPH) (defBody sPH) (defScope sPH) .none kVPH dcPH pmPH anPH cdPH ctPH), slPH⟩)
    (cPH : PySem.W.codeIn K cdPH "Count.half_cycles" = true)
    (kPH : PySem.W.keepIn K (.ref fPH) = true)
    (aPG : PySem.W.findIn K (.ref CT_) "changes" = some (some (.ref fPG)))
    (iPG : PySem.W.isFn K (.ref fPG) = true)
    (lPG : K.lookup fPG = some ⟨ocPG, odPG, .func (PySem.W.fnOf "changes" "Count.changes" (defArgs sPG) (defBody sPG) (defScope sPG) .none kVPG dcPG pmPG anPG cdPG ctPG), slPG⟩)
    (cPG : PySem.W.codeIn K cdPG "Count.changes" = true)
    (kPG : PySem.W.keepIn K (.ref fPG) = true)
    (ihaEQ : PySem.W.findIn K (.ref CT_) "__class__" = some (some (.builtin "object.__class__")))
    (ihnEQ : PySem.W.specialIn K (.builtin "object.__class__") "__get__" = some (some (.builtin "getset_descriptor.__get__")))
    (ihtEQ : PySem.W.takesIn K (.builtin "object.__class__") = some true)
    (ihmEQ : PySem.W.mroIn K CT_ (.type "object") = some true)
    (aEQ : PySem.W.findIn K (.ref CT_) "__eq__" = some (some (.ref fEQ)))
    (iEQ : PySem.W.isFn K (.ref fEQ) = true)
    (lEQ : K.lookup fEQ = some ⟨ocEQ, odEQ, .func (PySem.W.fnOf "__eq__" "Count.__eq__" (defArgs sEQ) (defBody sEQ) (defScope sEQ) .none kVEQ dcEQ pmEQ anEQ cdEQ ctEQ), slEQ⟩)
    (cEQ : PySem.W.codeIn K cdEQ "Count.__eq__" = true)
    (kEQ : PySem.W.keepIn K (.ref fEQ) = true)
    (neEQ : PySem.W.findIn K (.ref CT_) "__ne__" = some (some (.builtin "object.__ne__")))
    (aST : PySem.W.findIn K (.ref CT_) "__str__" = some (some (.ref fST)))
    (iST : PySem.W.isFn K (.ref fST) = true)
    (lST : K.lookup fST = some ⟨ocST, odST, .func (PySem.W.fnOf "__str__" "Count.__str__" (defArgs WN.sST) (defBody WN.sST) (defScope WN.sST) .none kVST dcST pmST anST cdST ctST), slST⟩)
    (cST : PySem.W.codeIn K cdST "Count.__str__" = true)
    (kST : PySem.W.keepIn K (.ref fST) = true)
    (agN : PySem.W.nsIn K mainGlobals "NOTHING" = some (some vgN))
    (rgN : RelV (.str "none") vgN)
    (agLIM : PySem.W.nsIn K mainGlobals "LIMIT" = some (some vgLIM))
    (rgLIM : RelV (.int 1000000000) vgLIM)
    (agLON : PySem.W.nsIn K mainGlobals "LONGEST" = some (some vgLON))
    (rgLON : RelV (.int 11) vgLON)
    (z1 : PySem.W.nsIn K mainGlobals "len" = some none)
    (z2 : PySem.W.nsIn K mainGlobals "max" = some none)
    (z3 : PySem.W.nsIn K mainGlobals "min" = some none)
    (z4 : PySem.W.nsIn K mainGlobals "abs" = some none)
    (z5 : PySem.W.nsIn K mainGlobals "range" = some none)
    (z6 : PySem.W.nsIn K mainGlobals "tuple" = some none)
    (z7 : PySem.W.nsIn K mainGlobals "list" = some none)
    (z8 : PySem.W.nsIn K mainGlobals "int" = some none)
    (z9 : PySem.W.nsIn K mainGlobals "isinstance" = some none)
    (z10 : PySem.W.nsIn K mainGlobals "bool" = some none)
    (z11 : PySem.W.nsIn K mainGlobals "repr" = some none)
    (z12 : PySem.W.nsIn K mainGlobals "str" = some none)
    (z13 : PySem.W.nsIn K mainGlobals "ValueError" = some none)
    (z14 : PySem.W.nsIn K mainGlobals "sorted" = some none)
    (z15 : PySem.W.nsIn K mainGlobals "zip" = some none)
    (aCi : PySem.W.nsIn K mainGlobals "InvalidText" = some (some (.ref C)))
    (aW : PySem.W.nsIn K mainGlobals "WearError" = some (some (.ref CW)))
    (xL : K.lookup C = some (excClassObj nmE qE C NE bsE [.ref CW, .type "ValueError", .type "Exception", .type "BaseException", .type "object"] true snE subE abE colE ddE m0E m1E m2E m3E m5E "ValueError.__new__"))
    (saE : PySem.W.findIn K (.ref C) "__setattr__" = some (some (.builtin "object.__setattr__")))
    (exE : PySem.W.subIn K (.ref C) (.type "BaseException") = some true)
    (tyE : PySem.W.typeIn K (.ref C) = some (.type "type"))
    (kE : PySem.W.keepIn K (.ref C) = true)
    (iE : PySem.W.findIn K (.ref C) "__init__" = some (some (.ref fEI)))
    (tIE : PySem.W.typeIn K (.ref fEI) = some (.type "function"))
    (lEI : K.lookup fEI = some ⟨ocE, odE, .func (PySem.W.fnX "__init__" "InvalidText.__init__" (defArgs Y7W.sEI) (defBody Y7W.sEI) (defScope Y7W.sEI) [("__class__", ccE)] .none kVE dcE pmE anE (.ref cdaE) ctE), slE⟩)
    (cEI : PySem.W.codeIn K (.ref cdaE) "InvalidText.__init__" = true)
    (lcc : K.lookup ccE = some ⟨clE, cldE, .cell (some (.ref C)), cslE⟩)
    (lcd : K.lookup cdaE = some ⟨cclE, cddE, .fields vsE, ccsE⟩)
    (hv2 : vsE[2]? = some (.str fileE tfE))
    (hfl : (l.prog.main.file == fileE) = true)
    (top : (l.prog.main.scope.names.lookup ("super" : Str)).isSome = false)
    (zsup : PySem.W.nsIn K mainGlobals "super" = some none)
    (anyE : PySem.W.nsIn K cStatics "thirdparty.any" = some none)
    (mroE : PySem.W.mroIn K C (.ref C) = some true)
    (supE : PySem.W.ks_superIn K C C "__init__" = some (some (.builtin "ValueError.__init__")))
    (sbE : PySem.W.subIn K (.ref C) (.type "ValueError") = some true)
    (gaE : PySem.W.findIn K (.ref C) "__getattribute__" = some (some (.builtin "BaseException.__getattribute__")))
    (ggE : PySem.W.findIn K (.ref C) "__getattr__" = some none)
    (hdE : PySem.W.hasDictIn K C = true)
    (noE : PySem.W.findIn K (.ref C) "row" = some none)
    (haE : PySem.W.findIn K (.ref C) "__class__" = some (some (.builtin "object.__class__")))
    (hnE : PySem.W.specialIn K (.builtin "object.__class__") "__get__" = some (some (.builtin "getset_descriptor.__get__")))
    (htE : PySem.W.takesIn K (.builtin "object.__class__") = some true)
    (hmE : PySem.W.mroIn K C (.type "object") = some true)
    (w1 : PySem.W.subIn K (.ref CW) (.type "BaseException") = some true)
    (w2 : PySem.W.hasDictIn K CW = true)
    (w3 : PySem.W.typeIn K (.ref CW) = some (.type "type"))
    (w4 : PySem.W.subIn K (.ref C) (.ref CW) = some true)
    (kvE : PySem.W.kitOne K (.ref C) (.type "ValueError") = some true)
    (aLAW : PySem.W.nsIn K mainGlobals "law" = some (some (.ref fLAW)))
    (lLAW : K.lookup fLAW = some ⟨ocLAW, odLAW, .func (PySem.W.fnOf "law" "law" (defArgs Y7W.sLaw) (defBody Y7W.sLaw) (defScope Y7W.sLaw) .none kVLAW dcLAW pmLAW anLAW cdLAW ctLAW), slLAW⟩)
    (cLAW : PySem.W.codeIn K cdLAW "law" = true)
    (kLAW : PySem.W.keepIn K (.ref fLAW) = true) :
    ∃ fd : FuncData, (∀ (s : Shared) (v : Value), BindsTo s fd ⟨[v], []⟩ [("script", v)]) ∧ ∀ base : Heap, K.In base → base.Ns mainGlobals mg → KW.Kept l.prog w K mg base 9 fa fd ["script"] (Y7W.spLaw K) := by
  have e := hfa.symm.trans (PySem.W.mg_of X G aLAW)
  cases e
  have FCO := fun_mk (st := sCont) lCO cCO kCO
  have bCO := FCO.binds (ps := ["outer", "inner"]) fun _ _ _ _ _ _ us hl => match us, hl with | [_, _], _ => rfl
  have FRG := fun_mk (st := sRng) lRG cRG kRG
  have bRG := FRG.binds (ps := ["one", "other"]) fun _ _ _ _ _ _ us hl => match us, hl with | [_, _], _ => rfl
  have FTP := fun_mk (st := sTP) lTP cTP kTP
  have bTP := FTP.binds (ps := ["load"]) fun _ _ _ _ _ _ us hl => match us, hl with | [_], _ => rfl
  have FIL := fun_mk (st := sLO) lIL cIL kIL
  have bIL := FIL.binds (ps := ["points", "reading"]) fun _ _ _ _ _ _ us hl => match us, hl with | [_, _], _ => rfl
  have FBT := fun_mk (st := sBtw) lBT cBT kBT
  have bBT := FBT.binds (ps := ["reading", "before", "after"]) fun _ _ _ _ _ _ us hl => match us, hl with | [_, _, _], _ => rfl
  have FSW := fun_mk (st := sSw) lSW cSW kSW
  have bSW := FSW.binds (ps := ["load"]) fun _ _ _ _ _ _ us hl => match us, hl with | [_], _ => rfl
  have FNU := fun_mk (st := Y7X.sNU) lNU cNU kNU
  have bNU := FNU.binds (ps := ["value"]) fun _ _ _ _ _ _ us hl => match us, hl with | [_], _ => rfl
  have FRD := fun_mk (st := Y7X.sRD) lRD cRD kRD
  have bRD := FRD.binds (ps := ["value"]) fun _ _ _ _ _ _ us hl => match us, hl with | [_], _ => rfl
  have FNL := fun_mk (st := Y7X.sNM) lNL cNL kNL
  have bNL := FNL.binds (ps := ["word"]) fun _ _ _ _ _ _ us hl => match us, hl with | [_], _ => rfl
  have FRO := fun_mk (st := Y7X.sRO) lRO cRO kRO
  have bRO := FRO.binds (ps := ["word"]) fun _ _ _ _ _ _ us hl => match us, hl with | [_], _ => rfl
  have FMT := fun_mk (st := sMT) lMT cMT kMT
  have bMT := FMT.binds (ps := ["points", "place"]) fun _ _ _ _ _ _ us hl => match us, hl with | [_, _], _ => rfl
  have FPB := fun_mk (st := sPB) lPB cPB kPB
  have bPB := FPB.binds (ps := ["rest", "reading"]) fun _ _ _ _ _ _ us hl => match us, hl with | [_, _], _ => rfl
  have FCN := fun_mk (st := sCo) lCN cCN kCN
  have bCN := FCN.binds (ps := ["load"]) fun _ _ _ _ _ _ us hl => match us, hl with | [_], _ => rfl
  have FAL := fun_mk (st := Y7X.sAL) lAL cAL kAL
  have bAL := FAL.binds (ps := ["points"]) fun _ _ _ _ _ _ us hl => match us, hl with | [_], _ => rfl
  have FOU := fun_mk (st := Y7X.sOU) lOU cOU kOU
  have bOU := FOU.binds (ps := ["cycles", "rest"]) fun _ _ _ _ _ _ us hl => match us, hl with | [_, _], _ => rfl
  have FCR := fun_mk (st := WN.sCR) lCR cCR kCR
  have bCR := FCR.binds (ps := ["cycles"]) fun _ _ _ _ _ _ us hl => match us, hl with | [_], _ => rfl
  have FPW := fun_mk (st := WN.sPRw) lPW cPW kPW
  have bPW := FPW.binds (ps := ["points"]) fun _ _ _ _ _ _ us hl => match us, hl with | [_], _ => rfl
  have FCY := fun_mk (st := Y7X.sCY) lCY cCY kCY
  have bCY := FCY.binds (ps := ["row"]) fun _ _ _ _ _ _ us hl => match us, hl with | [_], _ => rfl
  have FCI := fun_mk (st := Y7X.sCI) lCI cCI kCI
  have bCI := FCI.binds (ps := ["word"]) fun _ _ _ _ _ _ us hl => match us, hl with | [_], _ => rfl
  have FPT := fun_mk (st := Y7X.sPT) lPT cPT kPT
  have bPT := FPT.binds (ps := ["row"]) fun _ _ _ _ _ _ us hl => match us, hl with | [_], _ => rfl
  have FFE := fun_mk (st := sFeed) lFE cFE kFE
  have bFE := FFE.binds (ps := ["script", "k"]) fun _ _ _ _ _ _ us hl => match us, hl with | [_, _], _ => rfl
  have FTA := fun_mk (st := sTake) lTA cTA kTA
  have bTA := FTA.binds (ps := ["feed", "many"]) fun _ _ _ _ _ _ us hl => match us, hl with | [_, _], _ => rfl
  have FPI := fun_mk (st := sPick) lPI cPI kPI
  have bPI := FPI.binds (ps := ["feed", "some"]) fun _ _ _ _ _ _ us hl => match us, hl with | [_, _], _ => rfl
  have FLO := fun_mk (st := sLoad) lLO cLO kLO
  have bLO := FLO.binds (ps := ["feed", "most"]) fun _ _ _ _ _ _ us hl => match us, hl with | [_, _], _ => rfl
  have FLP := fun_mk (st := WF2.sLP) lLP cLP kLP
  have bLP := FLP.binds (ps := ["load"]) fun _ _ _ _ _ _ us hl => match us, hl with | [_], _ => rfl
  have FLR := fun_mk (st := WP.sLR) lLR cLR kLR
  have bLR := FLR.binds (ps := ["one", "other"]) fun _ _ _ _ _ _ us hl => match us, hl with | [_, _], _ => rfl
  have FLH := fun_mk (st := WP.sLH) lLH cLH kLH
  have bLH := FLH.binds (ps := ["outer", "inner"]) fun _ _ _ _ _ _ us hl => match us, hl with | [_, _], _ => rfl
  have FPL := fun_mk (st := WP.sPl) lPL cPL kPL
  have bPL := FPL.binds (ps := ["points"]) fun _ _ _ _ _ _ us hl => match us, hl with | [_], _ => rfl
  have FCT := fun_mk (st := WP.sCt) lCT cCT kCT
  have bCT := FCT.binds (ps := ["feed", "load"]) fun _ _ _ _ _ _ us hl => match us, hl with | [_, _], _ => rfl
  have FHV := fun_mk (st := WP.sHv) lHV cHV kHV
  have bHV := FHV.binds (ps := ["cycles", "rest"]) fun _ _ _ _ _ _ us hl => match us, hl with | [_, _], _ => rfl
  have FLN := fun_mk (st := Y7R.sLN) lLN cLN kLN
  have bLN := FLN.binds (ps := ["word"]) fun _ _ _ _ _ _ us hl => match us, hl with | [_], _ => rfl
  have FLC := fun_mk (st := Y7R.sLC) lLC cLC kLC
  have bLC := FLC.binds (ps := ["row"]) fun _ _ _ _ _ _ us hl => match us, hl with | [_], _ => rfl
  have FDU := fun_mk (st := Y7R.sDU) lDU cDU kDU
  have bDU := FDU.binds (ps := ["text"]) fun _ _ _ _ _ _ us hl => match us, hl with | [_], _ => rfl
  have FTO := fun_mk (st := Y7R.sTO) lTO cTO kTO
  have bTO := FTO.binds (ps := ["text"]) fun _ _ _ _ _ _ us hl => match us, hl with | [_], _ => rfl
  have FRR := fun_mk (st := Y7R.sRR) lRR cRR kRR
  have bRR := FRR.binds (ps := ["text", "load", "halves"]) fun _ _ _ _ _ _ us hl => match us, hl with | [_, _, _], _ => rfl
  have FCH := fun_mk (st := Y7C2.sCH) lCH cCH kCH
  have bCH := FCH.binds (ps := ["feed", "text"]) fun _ _ _ _ _ _ us hl => match us, hl with | [_, _], _ => rfl
  have FIN := fun_mk (st := sInit) lIN cIN kIN
  have bIN := FIN.binds (ps := ["self", "cycles", "rest"]) fun _ _ _ _ _ _ us hl => match us, hl with | [_, _, _], _ => rfl
  have FOF := fun_mk (st := sOf) lOF cOF kOF
  have bOF := FOF.binds (ps := ["cls", "load"]) fun _ _ _ _ _ _ us hl => match us, hl with | [_, _], _ => rfl
  have FPA := fun_mk (st := Y7X.sPA) lPA cPA kPA
  have bPA := FPA.binds (ps := ["cls", "text"]) fun _ _ _ _ _ _ us hl => match us, hl with | [_, _], _ => rfl
  have FJN := fun_mk (st := sJN) lJN cJN kJN
  have FPC := fun_mk (st := sPC) lPC cPC kPC
  have bPC := FPC.binds (ps := ["self"]) fun _ _ _ _ _ _ us hl => match us, hl with | [_], _ => rfl
  have FPR_ := fun_mk (st := sPR) lPR_ cPR_ kPR_
  have bPR_ := FPR_.binds (ps := ["self"]) fun _ _ _ _ _ _ us hl => match us, hl with | [_], _ => rfl
  have FPH := fun_mk (st := sPH) lPH cPH kPH
  have bPH := FPH.binds (ps := ["self"]) fun _ _ _ _ _ _ us hl => match us, hl with | [_], _ => rfl
  have FPG := fun_mk (st := sPG) lPG cPG kPG
  have bPG := FPG.binds (ps := ["self", "low", "high"]) fun _ _ _ _ _ _ us hl => match us, hl with | [_, _, _], _ => rfl
  have FEQ := fun_mk (st := sEQ) lEQ cEQ kEQ
  have bEQ := FEQ.binds (ps := ["self", "other"]) fun _ _ _ _ _ _ us hl => match us, hl with | [_, _], _ => rfl
  have FST := fun_mk (st := WN.sST) lST cST kST
  have bST := FST.binds (ps := ["self"]) fun _ _ _ _ _ _ us hl => match us, hl with | [_], _ => rfl
  have FLAW := fun_mk (st := Y7W.sLaw) lLAW cLAW kLAW
  have oexE : OexC K C := ⟨⟨_, _, _, _, _, _, _, _, _, _, _, _, _, _, _, xL, by rfl⟩, saE, exE, tyE, kE⟩
  have FEI : XS.FunS K l.prog "__init__" "InvalidText.__init__" Y7W.sEI C fEI (PySem.W.fnX "__init__" "InvalidText.__init__" (defArgs Y7W.sEI) (defBody Y7W.sEI) (defScope Y7W.sEI) [("__class__", ccE)] .none kVE dcE pmE anE (.ref cdaE) ctE) := ⟨⟨_, _, _, _, _, _, _, _, _, _, _, _, _, _, _, _, _, _, _, _, rfl, lEI, cEI, lcc, lcd, hv2, hfl⟩⟩
  have bEI : Binds K (PySem.W.fnX "__init__" "InvalidText.__init__" (defArgs Y7W.sEI) (defBody Y7W.sEI) (defScope Y7W.sEI) [("__class__", ccE)] .none kVE dcE pmE anE (.ref cdaE) ctE) ["self", "row"] [] := fun s us _ hl => match us, hl with | [_, _], _ => .of_eq rfl
  have T : Y7W.Txt l.prog K mg fCO fRG fTP fIL fBT fSW fNU fRD fNL fRO fMT fPB fCN fAL fOU fCR fPW fCY fCI fPT fFE fTA fPI fLO fLP fLR fLH fPL fCT fHV fLN fLC fDU fTO fRR fCH CT_ fIN pO fOF pP fPA fJN pC fPC pR fPR_ p3 fPH fPG fEQ fST C CW fEI _ _ _ _ _ _ _ _ _ _ _ _ _ _ _ _ _ _ _ _ _ _ _ _ _ _ _ _ _ _ _ _ _ _ _ _ _ _ _ _ _ _ _ _ _ _ _ := ⟨FCO, PySem.W.mg_of X G aCO, kCO, bCO, FRG, PySem.W.mg_of X G aRG, kRG, bRG, FTP, PySem.W.mg_of X G aTP, kTP, bTP, FIL, PySem.W.mg_of X G aIL, kIL, bIL, FBT, PySem.W.mg_of X G aBT, kBT, bBT, FSW, PySem.W.mg_of X G aSW, kSW, bSW, FNU, PySem.W.mg_of X G aNU, kNU, bNU, FRD, PySem.W.mg_of X G aRD, kRD, bRD, FNL, PySem.W.mg_of X G aNL, kNL, bNL, FRO, PySem.W.mg_of X G aRO, kRO, bRO, FMT, PySem.W.mg_of X G aMT, kMT, bMT, FPB, PySem.W.mg_of X G aPB, kPB, bPB, FCN, PySem.W.mg_of X G aCN, kCN, bCN, FAL, PySem.W.mg_of X G aAL, kAL, bAL, FOU, PySem.W.mg_of X G aOU, kOU, bOU, FCR, PySem.W.mg_of X G aCR, kCR, bCR, FPW, PySem.W.mg_of X G aPW, kPW, bPW, FCY, PySem.W.mg_of X G aCY, kCY, bCY, FCI, PySem.W.mg_of X G aCI, kCI, bCI, FPT, PySem.W.mg_of X G aPT, kPT, bPT, FFE, PySem.W.mg_of X G aFE, kFE, bFE, FTA, PySem.W.mg_of X G aTA, kTA, bTA, FPI, PySem.W.mg_of X G aPI, kPI, bPI, FLO, PySem.W.mg_of X G aLO, kLO, bLO, FLP, PySem.W.mg_of X G aLP, kLP, bLP, FLR, PySem.W.mg_of X G aLR, kLR, bLR, FLH, PySem.W.mg_of X G aLH, kLH, bLH, FPL, PySem.W.mg_of X G aPL, kPL, bPL, FCT, PySem.W.mg_of X G aCT, kCT, bCT, FHV, PySem.W.mg_of X G aHV, kHV, bHV, FLN, PySem.W.mg_of X G aLN, kLN, bLN, FLC, PySem.W.mg_of X G aLC, kLC, bLC, FDU, PySem.W.mg_of X G aDU, kDU, bDU, FTO, PySem.W.mg_of X G aTO, kTO, bTO, FRR, PySem.W.mg_of X G aRR, kRR, bRR, FCH, PySem.W.mg_of X G aCH, kCH, bCH, PySem.W.mg_of X G aC, ⟨⟨pg, hd, po, sa⟩, na0, na1⟩, ⟨mk, aI, iI, kc⟩, FIN, bIN, ⟨rdOF, gaOF⟩, ⟨aOF, ⟨_, rcOF⟩, fiOF⟩, FOF, bOF, ⟨rdOF, gaOF⟩, ⟨aPA, ⟨_, rcPA⟩, fiPA⟩, FPA, bPA, ⟨⟨pSJN, rJN, aJN, rcJN⟩, kJN⟩, FJN, ⟨aPPC, gPPC, tPPC, ⟨_, rcPPC⟩⟩, FPC, bPC, ⟨aPPR_, gPPR_, tPPR_, ⟨_, rcPPR_⟩⟩, FPR_, bPR_, ⟨aPPH, gPPH, tPPH, ⟨_, rcPPH⟩⟩, FPH, bPH, ⟨aPG, iPG, kPG⟩, FPG, bPG, ⟨⟨pg, hd, po, sa⟩, ihaEQ, ihnEQ, ihtEQ, ihmEQ, if_pos (beq_self_eq_true _)⟩, aEQ, iEQ, ihmEQ, neEQ, FEQ, bEQ, aST, iST, FST, bST, ⟨_, PySem.W.mg_of X G agN, rgN⟩, ⟨_, PySem.W.mg_of X G agLIM, rgLIM⟩, ⟨_, PySem.W.mg_of X G agLON, rgLON⟩, PySem.W.mg_none_of X G z1, PySem.W.mg_none_of X G z2, PySem.W.mg_none_of X G z3, PySem.W.mg_none_of X G z4, PySem.W.mg_none_of X G z5, PySem.W.mg_none_of X G z6, PySem.W.mg_none_of X G z7, PySem.W.mg_none_of X G z8, PySem.W.mg_none_of X G z9, PySem.W.mg_none_of X G z10, PySem.W.mg_none_of X G z11, PySem.W.mg_none_of X G z12, PySem.W.mg_none_of X G z13, PySem.W.mg_none_of X G z14, PySem.W.mg_none_of X G z15, PySem.W.mg_of X G aCi, PySem.W.mg_of X G aW, ⟨oexE, iE, tIE⟩, FEI, bEI, ⟨top, PySem.W.mg_none_of X G zsup, anyE⟩, ⟨oexE, mroE, supE, sbE⟩, ⟨⟨gaE, ggE, exE, hdE⟩, noE⟩, ⟨gaE, ggE, exE, hdE, haE, hnE, htE, hmE⟩, PySem.W.exm_ref w1 w2 w3 w4, kvE⟩
  exact ⟨PySem.W.fnOf "law" "law" (defArgs Y7W.sLaw) (defBody Y7W.sLaw) (defScope Y7W.sLaw) .none kVLAW dcLAW pmLAW anLAW cdLAW ctLAW, fun s v => .of_eq rfl, fun base _ _ => Y7W.ok_law FLAW T⟩
end Y7E0
open PySem PySem.W PyProof.Rows
set_option maxRecDepth 100000 in
set_option maxHeartbeats 0 in
theorem PySem.Challenge.cw_wearswings_k07_texts_of_counts_holds : PySem.Challenge.rw_wearswings_k07_texts_of_counts.Holds := by
  w_on; o_law; k_head; (case hw => w_witness2)
  k_fill
  refine KW.walk_kept (l := PySem.Challenge.rw_wearswings_k07_texts_of_counts) (n := 63) (k := 9) (x := "script") (sp := Y7W.spLaw) rfl (by decide) rfl ⟨rfl, by decide, by decide⟩ (fun w h Y => PySem.W.kIn_of Y) ?F (fun K H a ns hl _ hS => ⟨a, ns, rfl, hS, hl, fun _ => rfl⟩)
  case F =>
    intro w mg fa h KX G hmg
    refine' Y7E0.all_mk KX G hmg ?aCO ?lCO ?cCO ?kCO ?aRG ?lRG ?cRG ?kRG ?aTP ?lTP ?cTP ?kTP ?aIL ?lIL ?cIL ?kIL ?aBT ?lBT ?cBT ?kBT ?aSW ?lSW ?cSW ?kSW ?aNU ?lNU ?cNU ?kNU ?aRD ?lRD ?cRD ?kRD ?aNL ?lNL ?cNL ?kNL ?aRO ?lRO ?cRO ?kRO ?aMT ?lMT ?cMT ?kMT ?aPB ?lPB ?cPB ?kPB ?aCN ?lCN ?cCN ?kCN ?aAL ?lAL ?cAL ?kAL ?aOU ?lOU ?cOU ?kOU ?aCR ?lCR ?cCR ?kCR ?aPW ?lPW ?cPW ?kPW ?aCY ?lCY ?cCY ?kCY ?aCI ?lCI ?cCI ?kCI ?aPT ?lPT ?cPT ?kPT ?aFE ?lFE ?cFE ?kFE ?aTA ?lTA ?cTA ?kTA ?aPI ?lPI ?cPI ?kPI ?aLO ?lLO ?cLO ?kLO ?aLP ?lLP ?cLP ?kLP ?aLR ?lLR ?cLR ?kLR ?aLH ?lLH ?cLH ?kLH ?aPL ?lPL ?cPL ?kPL ?aCT ?lCT ?cCT ?kCT ?aHV ?lHV ?cHV ?kHV ?aLN ?lLN ?cLN ?kLN ?aLC ?lLC ?cLC ?kLC ?aDU ?lDU ?cDU ?kDU ?aTO ?lTO ?cTO ?kTO ?aRR ?lRR ?cRR ?kRR ?aCH ?lCH ?cCH ?kCH ?aC ?pg ?hd ?po ?sa ?na0 ?na1 ?mk ?kc ?aI ?iI ?lIN ?cIN ?kIN ?rdOF ?gaOF ?aOF ?rcOF ?fiOF ?lOF ?cOF ?kOF ?aPA ?rcPA ?fiPA ?lPA ?cPA ?kPA ?aJN ?rcJN ?lJN ?cJN ?kJN ?aPPC ?gPPC ?tPPC ?rcPPC ?lPC ?cPC ?kPC ?aPPR_ ?gPPR_ ?tPPR_ ?rcPPR_ ?lPR_ ?cPR_ ?kPR_ ?aPPH ?gPPH ?tPPH ?rcPPH ?lPH ?cPH ?kPH ?aPG ?iPG ?lPG ?cPG ?kPG ?ihaEQ ?ihnEQ ?ihtEQ ?ihmEQ ?aEQ ?iEQ ?lEQ ?cEQ ?kEQ ?neEQ ?aST ?iST ?lST ?cST ?kST ?agN ?rgN ?agLIM ?rgLIM ?agLON ?rgLON ?z1 ?z2 ?z3 ?z4 ?z5 ?z6 ?z7 ?z8 ?z9 ?z10 ?z11 ?z12 ?z13 ?z14 ?z15 ?aCi ?aW ?xL ?saE ?exE ?tyE ?kE ?iE ?tIE ?lEI ?cEI ?lcc ?lcd ?hv2 ?hfl ?top ?zsup ?anyE ?mroE ?supE ?sbE ?gaE ?ggE ?hdE ?noE ?haE ?hnE ?htE ?hmE ?w1 ?w2 ?w3 ?w4 ?kvE ?aLAW ?lLAW ?cLAW ?kLAW
    (case aCO => k_is)
    (case lCO => k_is)
    (case cCO => k_is)
    (case kCO => k_is)
    (case aRG => k_is)
    (case lRG => k_is)
    (case cRG => k_is)
    (case kRG => k_is)
    (case aTP => k_is)
    (case lTP => k_is)
    (case cTP => k_is)
    (case kTP => k_is)
    (case aIL => k_is)
    (case lIL => k_is)
    (case cIL => k_is)
    (case kIL => k_is)
    (case aBT => k_is)
    (case lBT => k_is)
    (case cBT => k_is)
    (case kBT => k_is)
    (case aSW => k_is)
    (case lSW => k_is)
    (case cSW => k_is)
    (case kSW => k_is)
    (case aNU => k_is)
    (case lNU => k_is)
    (case cNU => k_is)
    (case kNU => k_is)
    (case aRD => k_is)
    (case lRD => k_is)
    (case cRD => k_is)
    (case kRD => k_is)
    (case aNL => k_is)
    (case lNL => k_is)
    (case cNL => k_is)
    (case kNL => k_is)
    (case aRO => k_is)
    (case lRO => k_is)
    (case cRO => k_is)
    (case kRO => k_is)
    (case aMT => k_is)
    (case lMT => k_is)
    (case cMT => k_is)
    (case kMT => k_is)
    (case aPB => k_is)
    (case lPB => k_is)
    (case cPB => k_is)
    (case kPB => k_is)
    (case aCN => k_is)
    (case lCN => k_is)
    (case cCN => k_is)
    (case kCN => k_is)
    (case aAL => k_is)
    (case lAL => k_is)
    (case cAL => k_is)
    (case kAL => k_is)
    (case aOU => k_is)
    (case lOU => k_is)
    (case cOU => k_is)
    (case kOU => k_is)
    (case aCR => k_is)
    (case lCR => k_is)
    (case cCR => k_is)
    (case kCR => k_is)
    (case aPW => k_is)
    (case lPW => k_is)
    (case cPW => k_is)
    (case kPW => k_is)
    (case aCY => k_is)
    (case lCY => k_is)
    (case cCY => k_is)
    (case kCY => k_is)
    (case aCI => k_is)
    (case lCI => k_is)
    (case cCI => k_is)
    (case kCI => k_is)
    (case aPT => k_is)
    (case lPT => k_is)
    (case cPT => k_is)
    (case kPT => k_is)
    (case aFE => k_is)
    (case lFE => k_is)
    (case cFE => k_is)
    (case kFE => k_is)
    (case aTA => k_is)
    (case lTA => k_is)
    (case cTA => k_is)
    (case kTA => k_is)
    (case aPI => k_is)
    (case lPI => k_is)
    (case cPI => k_is)
    (case kPI => k_is)
    (case aLO => k_is)
    (case lLO => k_is)
    (case cLO => k_is)
    (case kLO => k_is)
    (case aLP => k_is)
    (case lLP => k_is)
    (case cLP => k_is)
    (case kLP => k_is)
    (case aLR => k_is)
    (case lLR => k_is)
    (case cLR => k_is)
    (case kLR => k_is)
    (case aLH => k_is)
    (case lLH => k_is)
    (case cLH => k_is)
    (case kLH => k_is)
    (case aPL => k_is)
    (case lPL => k_is)
    (case cPL => k_is)
    (case kPL => k_is)
    (case aCT => k_is)
    (case lCT => k_is)
    (case cCT => k_is)
    (case kCT => k_is)
    (case aHV => k_is)
    (case lHV => k_is)
    (case cHV => k_is)
    (case kHV => k_is)
    (case aLN => k_is)
    (case lLN => k_is)
    (case cLN => k_is)
    (case kLN => k_is)
    (case aLC => k_is)
    (case lLC => k_is)
    (case cLC => k_is)
    (case kLC => k_is)
    (case aDU => k_is)
    (case lDU => k_is)
    (case cDU => k_is)
    (case kDU => k_is)
    (case aTO => k_is)
    (case lTO => k_is)
    (case cTO => k_is)
    (case kTO => k_is)
    (case aRR => k_is)
    (case lRR => k_is)
    (case cRR => k_is)
    (case kRR => k_is)
    (case aCH => k_is)
    (case lCH => k_is)
    (case cCH => k_is)
    (case kCH => k_is)
    (case aC => k_is)
    (case pg => k_is)
    (case hd => k_is)
    (case po => k_is)
    (case sa => k_is)
    (case na0 => k_is)
    (case na1 => k_is)
    (case mk => k_is)
    (case kc => k_is)
    (case aI => k_is)
    (case iI => k_is)
    (case lIN => k_is)
    (case cIN => k_is)
    (case kIN => k_is)
    (case rdOF => k_is)
    (case gaOF => k_is)
    (case aOF => k_is)
    (case rcOF => k_is)
    (case fiOF => k_is)
    (case lOF => k_is)
    (case cOF => k_is)
    (case kOF => k_is)
    (case aPA => k_is)
    (case rcPA => k_is)
    (case fiPA => k_is)
    (case lPA => k_is)
    (case cPA => k_is)
    (case kPA => k_is)
    (case aJN => k_is)
    (case rcJN => k_is)
    (case lJN => k_is)
    (case cJN => k_is)
    (case kJN => k_is)
    (case aPPC => k_is)
    (case gPPC => k_is)
    (case tPPC => k_is)
    (case rcPPC => k_is)
    (case lPC => k_is)
    (case cPC => k_is)
    (case kPC => k_is)
    (case aPPR_ => k_is)
    (case gPPR_ => k_is)
    (case tPPR_ => k_is)
    (case rcPPR_ => k_is)
    (case lPR_ => k_is)
    (case cPR_ => k_is)
    (case kPR_ => k_is)
    (case aPPH => k_is)
    (case gPPH => k_is)
    (case tPPH => k_is)
    (case rcPPH => k_is)
    (case lPH => k_is)
    (case cPH => k_is)
    (case kPH => k_is)
    (case aPG => k_is)
    (case iPG => k_is)
    (case lPG => k_is)
    (case cPG => k_is)
    (case kPG => k_is)
    (case ihaEQ => k_is)
    (case ihnEQ => k_is)
    (case ihtEQ => k_is)
    (case ihmEQ => k_is)
    (case aEQ => k_is)
    (case iEQ => k_is)
    (case lEQ => k_is)
    (case cEQ => k_is)
    (case kEQ => k_is)
    (case neEQ => k_is)
    (case aST => k_is)
    (case iST => k_is)
    (case lST => k_is)
    (case cST => k_is)
    (case kST => k_is)
    (case agN => k_is)
    (case rgN => exact ⟨_, rfl⟩)
    (case agLIM => k_is)
    (case rgLIM => exact ⟨_, rfl⟩)
    (case agLON => k_is)
    (case rgLON => exact ⟨_, rfl⟩)
    (case z1 => k_is)
    (case z2 => k_is)
    (case z3 => k_is)
    (case z4 => k_is)
    (case z5 => k_is)
    (case z6 => k_is)
    (case z7 => k_is)
    (case z8 => k_is)
    (case z9 => k_is)
    (case z10 => k_is)
    (case z11 => k_is)
    (case z12 => k_is)
    (case z13 => k_is)
    (case z14 => k_is)
    (case z15 => k_is)
    (case aCi => k_is)
    (case aW => k_is)
    (case xL => k_is)
    (case saE => k_is)
    (case exE => k_is)
    (case tyE => k_is)
    (case kE => k_is)
    (case iE => k_is)
    (case tIE => k_is)
    (case lEI => k_is)
    (case cEI => k_is)
    (case lcc => k_is)
    (case lcd => k_is)
    (case hv2 => first | rfl | k_is)
    (case hfl => first | rfl | decide +kernel)
    (case top => first | rfl | decide +kernel)
    (case zsup => k_is)
    (case anyE => k_is)
    (case mroE => k_is)
    (case supE => ks_is)
    (case sbE => k_is)
    (case gaE => k_is)
    (case ggE => k_is)
    (case hdE => k_is)
    (case noE => k_is)
    (case haE => k_is)
    (case hnE => k_is)
    (case htE => k_is)
    (case hmE => k_is)
    (case w1 => k_is)
    (case w2 => k_is)
    (case w3 => k_is)
    (case w4 => first | rfl | k_is)
    (case kvE => first | rfl | k_is)
    (case aLAW => k_is)
    (case lLAW => k_is)
    (case cLAW => k_is)
    (case kLAW => k_is)

