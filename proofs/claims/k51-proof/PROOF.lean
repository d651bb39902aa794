import PyProof.Rows.All
import Wide.All
import OpenK.AllK
import Wide.FinOn
import HandS.ForMost
import HandS.Flow
import HandS.OwnEq
import HandS.More
import HandS.DictComp
import HandS.List
import KE.KEqDict
import KE.KDictKeyed
import KE.KRevSl
import PyProof.InstNe
import HandS.IsInst
import HandS.SortRule
import HandS.Property
import HandS.ClsMeth
import HandS.Star
import HandS.Codes
import HandS.Strs
import HandS.SetFor
import HandS.RaiseMore
import HandS.Wide
import HandS.Style
import HandS.Walk
import HandS.Zip
import HandS.TupAny
import HandS.Conv
import KE.DataMinMax
import HandS.SortKw
import HandS.Comp
import HandS.Defaults
import HandS.FStr
import HandS.Text
import KE.KCallOwn
import HandS.StrMore
import HandS.NoneIn
import HandS.Deep
import HandS.Steps
import HandS.ExcInit
import HandS.Nested
import KE.KExcSuper
import HandS.ForExc
import HandS.ExcIs
import HandS.ExcField
import HandS.Iter
import KE.GoesEnum
import HandS.ExcOwn
import HandS.Call
import PyProof.StrOps2
import PyProof.StrLawsRepr
import KE.RegKSuper
import PySem.Challenge.RW_wearswings_k51_texts_of_tables
set_option Elab.async false
set_option linter.all false
set_option maxRecDepth 100000
set_option maxHeartbeats 16000000
/-! del xs[-3:-1] of a list of at least three -/
namespace DS
open PySem PySem.Spec PyProof.Rows L2
def sel (start stop step : Int) (i : Nat) : Bool :=
  if step > 0 then start ≤ i && i < stop && (i - start) % step == 0 else stop < i && i ≤ start && (start - i) % (-step) == 0
theorem sel_iff (a c : Int) (i : Nat) : sel a c 1 i = decide (a ≤ i ∧ (i : Int) < c) := by
  unfold sel
  rw [if_pos (by decide)]
  have e : ((((i : Int) - a) % 1) == 0) = true := by rw [Int.emod_one]; rfl
  rw [e, Bool.and_true]
  by_cases h1 : a ≤ (i : Int) <;> by_cases h2 : (i : Int) < c <;> simp [h1, h2]
def cutOut (a c : Int) (xs : Array Value) : Array Value := (xs.toList.zipIdx.filterMap fun (x, k) => if sel a c 1 k then none else some x).toArray
theorem keep_all {a c : Int} : ∀ (l : List Value) (s : Nat), ((s + l.length : Nat) : Int) ≤ a → (l.zipIdx s).filterMap (fun (x, k) => if sel a c 1 k then none else some x) = l
  | [], _, _ => rfl
  | x :: l, s, h => by
    rw [List.zipIdx_cons, List.filterMap_cons]
    have e : sel a c 1 s = false := by rw [sel_iff]; exact decide_eq_false (by simp only [List.length_cons] at h; omega)
    have ih := keep_all (a := a) (c := c) l (s + 1) (by simp only [List.length_cons] at h; omega)
    simp only [e, Bool.false_eq_true, if_false]
    rw [ih]
theorem cut_three (pre : List Value) (x y z : Value) : cutOut ((pre.length : Nat) : Int) (((pre.length + 2 : Nat)) : Int) (pre ++ [x, y, z]).toArray = (pre ++ [z]).toArray := by
  unfold cutOut
  congr 1
  show ((pre ++ [x, y, z]).zipIdx.filterMap _) = _
  rw [List.zipIdx_append, List.filterMap_append, keep_all pre 0 (by omega)]
  congr 1
  have e1 : sel ((pre.length : Nat) : Int) (((pre.length + 2 : Nat)) : Int) 1 pre.length = true := by rw [sel_iff]; exact decide_eq_true (by omega)
  have e2 : sel ((pre.length : Nat) : Int) (((pre.length + 2 : Nat)) : Int) 1 (pre.length + 1) = true := by rw [sel_iff]; exact decide_eq_true (by omega)
  have e3 : sel ((pre.length : Nat) : Int) (((pre.length + 2 : Nat)) : Int) 1 (pre.length + 1 + 1) = false := by rw [sel_iff]; exact decide_eq_false (by omega)
  simp only [Nat.zero_add, List.zipIdx_cons, List.zipIdx_nil, List.filterMap_cons, List.filterMap_nil, e1, e2, e3, if_true, Bool.false_eq_true, if_false]
theorem bounds31 (n : Nat) : sliceBounds (some (-3)) (some (-1)) none (n + 3) = (((n : Nat) : Int), ((n + 2 : Nat) : Int), 1) := by
  simp only [sliceBounds, Option.getD_none]
  have h1 : (-3 : Int) < 0 := by decide
  have h2 : (-1 : Int) < 0 := by decide
  simp only [h1, h2, if_true, show (1 : Int) > 0 by decide]
  congr 1
  · omega
  · congr 1; omega
section
variable {prog : Program} {w : World} {A : Around} {E : Value → Shared → Prop} {s : Shared}
theorem del31 {l sl : Addr} {its : Array Value} {n : Nat} {vl vu : Value} {Q : Unit → Shared → Prop} (e : s.heap.get? l = some { cls := .type "list", data := .seq its n }) (hs : s.heap.IsSliceOf sl vl vu .none)
    (pl : IsPart vl (some (-3))) (pu : IsPart vu (some (-1))) (m : Nat) (hm : its.size = m + 3) (hz : its.size ≤ sizeLine)
    (h : Q () { s with heap := s.heap.update l (Obj.mapSeq (cutOut (m : Int) ((m + 2 : Nat) : Int))) }) : wpAny (model prog w) A (delItem (.ref l) (.ref sl)) Q E s := by
  have hl : s.heap.IsList l its := PySem.IsL.isList e
  obtain ⟨os, hos, hcs, hds⟩ := id hs
  have hT : s.TypeIs (.ref sl) "slice" := ⟨os, hos, hcs⟩
  have hst : ¬ ((rawPart none == rawInt 0) = true) := Bool.false_ne_true
  refine wpAny_delItem_slot hl.typeIs (by decide) F.slot_list_delitem (wpAny_call_entry F.slot_list_delitem hl.typeIs F.entry_list_delitem ?_ (F.args_list_delitem_2 _ _))
  unfold Builtin.«list.__delitem__»
  refine wpAny_bind (wpAny_of_eq (a := (Value.ref l, [Value.ref sl])) (by first | rfl | kernel_rfl) ?_)
  show wpAny _ _ (Builtin.List.listSubscript? (.ref sl) >>= _) _ _ s
  unfold Builtin.List.listSubscript?
  refine wpAny_bind (wpAny_bind (wpAny_specialOf hT slice_no_index ?_))
  simp only [Option.isNone_none, if_true]
  refine wpAny_pure ?_
  show wpAny _ _ (typeOf (.ref sl) >>= _) _ _ s
  refine wpAny_bind (wpAny_typeOf hT ?_)
  first
    | rw [if_neg (by decide)]
    | refine PySem.W.KFB.if_not (by decide) ?_
  rw [listSliceParts_eq]
  refine wpAny_bind (wpAny_bind (wpAny_field hos hds rfl (wpAny_bind (wpAny_listPart .none ?_))))
  rw [if_neg hst]
  refine wpAny_bind (wpAny_field hos hds rfl (wpAny_bind (wpAny_listPart pl ?_)))
  refine wpAny_bind (wpAny_field hos hds rfl (wpAny_bind (wpAny_listPart pu (wpAny_pure ?_))))
  unfold Builtin.List.listItems
  refine wpAny_bind (wpAny_bind (wpAny_seqItems e rfl (wpAny_pure ?_)))
  rw [hm]
  refine wpAny_bind (wpAny_of_eq ((sliceIndices_raw (some (-3)) (some (-1)) none (m + 3) (by simp)).trans (congrArg (pure : Int × Int × Int → Sem (Int × Int × Int)) (bounds31 m))) ?_)
  refine wpAny_bind (wpAny_rule ?_)
  have hz2 : (cutOut (m : Int) ((m + 2 : Nat) : Int) its).size ≤ sizeLine + 1 := by
    unfold cutOut
    rw [List.size_toArray]
    refine Nat.le_trans (List.length_filterMap_le _ _) ?_
    rw [List.length_zipIdx, Array.length_toList]
    omega
  show wpAny _ _ (updateSeq l (cutOut (m : Int) ((m + 2 : Nat) : Int)) >>= _) _ _ s
  refine wpAny_bind (wpAny_updateSeq (hz := hz) (_hz' := hz2) e rfl ?_)
  refine wpAny_bind (wpAny_letGo ?_)
  first
    | exact wpAny_pure ⟨.none, rfl, h⟩
    | exact wpAny_pure h
end
theorem split3 : ∀ {pre : List V} {x1 y1 z1 : V} {its : List Value}, Vals (pre ++ [x1, y1, z1]) its → ∃ ip i1 i2 i3, its = ip ++ [i1, i2, i3] ∧ Vals pre ip ∧ RelV x1 i1 ∧ RelV y1 i2 ∧ RelV z1 i3
  | [], _, _, _, _, .cons r1 (.cons r2 (.cons r3 .nil)) => ⟨[], _, _, _, rfl, .nil, r1, r2, r3⟩
  | _ :: pre, _, _, _, _, .cons r0 t => by
    obtain ⟨ip, i1, i2, i3, e, rp, h⟩ := split3 (pre := pre) t
    exact ⟨_ :: ip, i1, i2, i3, by rw [e]; rfl, .cons r0 rp, h⟩
section
variable {X : Cx}
/-- del xs[-3:-1] of a list of at least three -/
def tDel31 (to : TE) (tl th : TO) : TS := fun D σ H => to σ H fun x H1 => tl σ H1 fun l H2 => th σ H2 fun u H3 => l = some (-3) ∧ u = some (-1) ∧ ∃ (a : Addr) (pre : List V) (x1 y1 z1 : V), x = .ref a ∧ H3 a = some (.lst (pre ++ [x1, y1, z1])) ∧
  D.nx σ (upd H3 a (.lst (pre ++ [z1])))
theorem ps_del31 {o : Expr} {lo hi : Option Expr} {to : TE} {tl th : TO} {tpos p2 pos : Pos} (ho : PE X o to) (hl : PO X lo tl) (hu : PO X hi th) : PS X (.Delete [.Subscript o (.Slice lo hi none p2) tpos] pos) (tDel31 to tl th) := by
  refine ⟨fun pins s σ H D I h => ?_⟩
  refine wpAny_Delete (wpAny_deleteEach_cons (wpAny_delete_Subscript (thn (ho.run pins s σ H _ I h) fun u s1 ⟨x, H1, I1, rx, q1⟩ => ?_)))
  refine wpAny_Slice (thn (hl.run pins s1 σ H1 _ I1 q1) fun vl s2 ⟨l, H2, I2, pl, q2⟩ => thn (hu.run pins s2 σ H2 _ I2 q2) fun vu s3 ⟨w, H3, I3, pu, q3⟩ => ?_)
  rw [evalPart_none]
  refine wpAny_pure ?_
  obtain ⟨e1, e2, a, pre, x1, y1, z1, rfl, hH, q⟩ := q3
  subst e1 e2
  cases (show u = Value.ref a from rx)
  have I4 : Inv X pins σ H3 { s3 with heap := s3.heap.push { cls := .type "slice", data := .fields #[vl, vu, .none] } } := I3.kept (t' := s3.toks) fun b o e => Heap.get?_push_of_some _ e
  obtain ⟨z, its, n, r, hlen, e⟩ := I4.lstM hH
  have hn : its.length = pre.length + 3 := by rw [← hlen]; simp
  obtain ⟨ip, i1, i2, i3, ei, rp, r1, r2, r3⟩ : ∃ ip i1 i2 i3, its = ip ++ [i1, i2, i3] ∧ Vals pre ip ∧ RelV x1 i1 ∧ RelV y1 i2 ∧ RelV z1 i3 := split3 r
  subst ei
  have hp : ip.length = pre.length := rp.length.symm
  refine del31 e (Heap.IsSliceOf.new ..) pl pu pre.length (by rw [List.size_toArray]; exact hn) (by rw [List.size_toArray, ← hlen]; exact z) (wpAny_deleteEach_nil ⟨σ, _, I4.lset (ys := pre ++ [z1]) (its' := ip ++ [i3]) (t' := s3.toks) hH e ?_ (rp.append (.cons r3 .nil)) ?_, q⟩)
  · rw [← hp]
    exact cut_three ip i1 i2 i3
  · have := z
    simp only [List.length_append, List.length_cons, List.length_nil] at this ⊢
    omega
end
end DS

/-! set(xs) of a list of ints, with the order's ledger kept (for sorted behind it) -/
namespace KS
open PySem PySem.Spec PyProof.Rows L2
abbrev leer (w : World) : Obj := { cls := .type "set", dict := none, data := .set #[] 0 (.fresh 0 0 (!w.params.followText "set-order")) }
section
variable {P : Program} {w : World} {A : Around} {E : Value → Shared → Prop} {s : Shared}
/-- what stands behind set's own __init__ -/
abbrev Made (w : World) (s : Shared) (ns : List Int) (Q : Shared → Prop) : Prop :=
  ∀ (g : Heap) (tk c : Nat), SetR w g s.heap.objs.size (fun j => decide (j ∈ ns)) c → c ≤ ns.length → (∀ b o, s.heap.get? b = some o → g.get? b = some o) → Q { s with heap := g, toks := tk }
set_option maxHeartbeats 6400000 in
theorem set_lst {l : Addr} {its : Array Value} (ns : List Int) {Q : Value → Shared → Prop} (hh : A.handled = none) (hl : s.heap.IsList l its) (hit : IntsAre its.toList ns) (hb : ns.length + 1 < scanBound)
    (h : Made w s ns (Q (.ref s.heap.objs.size))) : wpAny (model P w) A (call (.type "set") [.ref l]) Q E s := by
  have hn : its.size = ns.length := by
    rw [← Array.length_toList]; exact IntsAre.length hit
  obtain ⟨c0, t0, hm⟩ := F.called_set.mro
  have k1 := F.called_set.made; have k2 := F.called_set.sub; have k3 := F.called_set.notType; have k4 := F.called_set.canCreate; have k5 := F.typeCall_set_1 (.ref l)
  refine wpAny_call (codeAny_of_tree (show wpAny _ _ (callAny (.type "set") _) _ _ _ from ?_))
  have uu : A.under (.builtin "type.__call__" ⟨[.type "set", .ref l], []⟩) = A.in1 := Around.under_plain (weight_type_call_type "set" [.ref l] []) rfl
  refine wpAny_pure ⟨Code.quiet_builtin _ (by decide +kernel), codeAny_builtin F.entry_type_call ?_⟩
  rw [show A.under (.builtin "type.__call__" { ({ pos := [Value.ref l] } : Args) with pos := .type "set" :: [Value.ref l] }) = A.in1 from uu]
  repeat (any_goals (first | assumption | wp_step))
  have hs0 : (s.heap.push (leer w)).get? s.heap.objs.size = some (leer w) := Heap.get?_push_size _ rfl
  refine codeAny_mono (code_set_led1 (.ref l) (E := E) (Q₁ := fun x s1 => x = .ref s.heap.objs.size ∧ s1 = { s with heap := s.heap.push (leer w) }) ⟨rfl, rfl⟩) fun r1 s1 e1 => ?_
  match r1, e1 with
  | .error _, e1 => exact e1
  | .ok (.next), e1 => exact e1.elim
  | .ok (.brk), e1 => exact e1.elim
  | .ok (.cont), e1 => exact e1.elim
  | .ok (.ret x), e1 =>
    obtain ⟨rfl, rfl⟩ := e1
    have hT : Shared.TypeIs { s with heap := s.heap.push (leer w) } (.ref s.heap.objs.size) "set" := ⟨_, hs0, rfl⟩
    have j1 := F.called_set.init.lookup; have j2 := F.called_set.init.bind (.ref s.heap.objs.size)
    repeat (any_goals (first | assumption | wp_step))
    refine codeAny_mono (codeAny_call_builtin (R := wants (fun v s2 => v = .none ∧ ∃ g tk c, s2 = { s with heap := g, toks := tk } ∧ SetR w g s.heap.objs.size (fun j => decide (j ∈ ns)) c ∧ c ≤ ns.length ∧ ∀ b o, s.heap.get? b = some o → g.get? b = some o) E)
      F.called_set.init.plain F.entry_set_init (check_set_init_1 hT ?_)) fun r2 s2 e2 => ?_
    · obtain ⟨ol, a1, a2, nl, a3⟩ := hl
      obtain ⟨xc, xd, xt, xs⟩ := ol
      simp only at a2 a3
      subst a2 a3
      have a4 : (s.heap.push (leer w)).get? l = some { cls := .type "list", dict := xd, data := .seq its nl, slots := xs } := Heap.get?_push_of_some _ a1
      have b1 := F.sub_list_set; have b2 := F.sub_list_frozenset; have b3 : (Value.type "list" == Value.type "dict") = false := by decide
      have a5 : (s.heap.push (leer w)).IsList l its := ⟨_, a4, rfl, nl, rfl⟩
      unfold Builtin.«set.__init__» noKeywords Builtin.Frozenset.updateFrom
      generalize hPI : pyIter = PI
      wp_walk
      subst hPI
      refine wpAny_pyIter_list a5 (wpAny_bind (wpAny_runValue ?_))
      have lt := Heap.lt_size a1
      have sz : (s.heap.push (leer w)).objs.size = s.heap.objs.size + 1 := Heap.size_push ..
      have d1 : l ≠ (s.heap.push (leer w)).objs.size := by rw [sz]; exact Nat.ne_of_lt (Nat.lt_succ_of_lt lt)
      have d2 : s.heap.objs.size ∉ [(s.heap.push (leer w)).objs.size, l] := by
        rw [sz]; intro z; rcases List.mem_cons.mp z with z | z
        · exact absurd z (Nat.ne_of_lt (Nat.lt_succ_self _))
        · exact absurd (List.mem_singleton.mp z) (Nat.ne_of_gt lt)
      have vl : ∀ i v, its[i]? = some v → ∃ (k : Int) (t : Tok), ns[i]? = some k ∧ v = Value.int k t := fun i v e => by
        have hi : i < ns.length := by rw [← hn]; exact (Array.getElem?_eq_some_iff.mp e).1
        obtain ⟨t, et⟩ := IntsAre.int_at hit i v (by rw [Array.getElem?_toList]; exact e)
        exact ⟨ns[i], t, List.getElem?_eq_getElem hi, by rw [et, List.getD_eq_getElem?_getD, List.getElem?_eq_getElem hi]; rfl⟩
      have hq : A.in1.in1.in1.handled = none := by simp [hh]
      refine set_update_ints ((Walks.list hq _ l d1 its).toS) s.heap.objs.size d2 ns hn hb vl (its.size - 0) 0 _ (by omega) (Nat.zero_le _) ⟨⟨_, Heap.get?_push_size _ rfl, rfl, rfl⟩, a5.push _⟩
        ⟨0, Nat.le_refl 0, setR_new_at (Heap.get?_push_of_some _ hs0)⟩ fun s3 c3 mv hc3 R3 => ?_
      obtain ⟨g3, gg, dd, tk3, oo⟩ := s3
      obtain rfl : gg = s.gens := mv.gens
      obtain rfl : dd = s.drawn := mv.drawn
      obtain rfl : oo = s.os := mv.os
      refine (show wpAny _ _ _ _ _ _ from wpAny_pure (show wpAny _ _ (ret Value.none) _ _ _ from wpAny_pure ⟨rfl, g3, tk3, c3, rfl, R3, by omega, fun b o e => ?_⟩))
      have hb0 := Heap.lt_size e
      exact mv.heap b o (by rw [sz]; intro z; rcases List.mem_cons.mp z with z | z
                            · exact absurd z (Nat.ne_of_lt hb0)
                            · exact absurd (List.mem_singleton.mp z) (Nat.ne_of_lt (Nat.lt_succ_of_lt hb0))) (Heap.get?_push_of_some _ (Heap.get?_push_of_some _ e))
    · match r2, e2 with
      | .error _, e2 => exact e2
      | .ok (.next), e2 => exact e2.elim
      | .ok (.brk), e2 => exact e2.elim
      | .ok (.cont), e2 => exact e2.elim
      | .ok (.ret y), e2 =>
        obtain ⟨rfl, g, tk, c, rfl, R2, hc, hk⟩ := e2
        repeat (any_goals (first | assumption | wp_step))
        exact h _ _ _ R2 hc hk
end
section
variable {X : Cx}
/-- set(xs) of a list of ints -/
def rSetL (w : World) (K : PySem.W.Frag) : List V → Hp → VK → Prop := fun vs H Q => ∃ (a : Addr) (ns : List Int), vs = [V.ref a] ∧ SqL K H a (ns.map V.int) ∧ ns.length ≤ 1000 ∧
  ∀ (p : Addr) (c : Nat), H p = none → c ≤ ns.length → Q (.ref p) (upd H p (SetO w p (fun j => decide (j ∈ ns)) c))
theorem cr_setL (hc : X.calm = true) : CallR X (.type "set") (rSetL X.w X.K) := by
  intro pins s σ H vs us Q I r h
  obtain ⟨a, ns, rfl, hS, hlen, q⟩ := h
  rw [Vals.ref1 r]
  obtain ⟨its, rv, pl, hz⟩ := I.list hS
  refine set_lst ns (I.ok.hd hc) pl.isList (by simpa using ints_of_vals rv) (by unfold scanBound; omega) fun g tk c R hcn k => ?_
  exact ⟨.ref _, _, I.laid (t' := tk) k (Nat.le_refl _) (setO_new R), rfl, q _ c (I.hok.fresh (Nat.le_refl _)) hcn⟩
end
end KS

/-! repr(xs) of a list of ints; a law's def whose body knows that no repr is under way -/
namespace KG
open PySem PySem.Spec PyProof.Rows L2
/-! ### the text of a list of ints -/
def datL (ns : List Int) : PyData := .list (ns.map PyData.int)
def reprL (ns : List Int) : Str := (datL ns).shown
theorem small_log {i : Int} {k : Nat} (h0 : 0 < k) (h : i.natAbs < 2 ^ k) : i.natAbs.log2 < k := PySem.Flt.log2_lt_of h0 h
theorem show_all : ∀ (ns : List Int), (∀ n ∈ ns, n.natAbs < 2 ^ 40) → PyData.showableAll (ns.map PyData.int) = true
  | [], _ => rfl
  | a :: r, h => by
    have h1 : a.natAbs.log2 < 1920 := Nat.lt_of_lt_of_le (small_log (by decide) (h a List.mem_cons_self)) (by decide)
    have h2 := show_all r fun n hn => h n (List.mem_cons_of_mem _ hn)
    simp only [List.map_cons, PyData.showableAll, PyData.showable, h2, h1, decide_true, Bool.and_self]
theorem nodict_all : ∀ (ns : List Int), PyData.hasDictAll (ns.map PyData.int) = false
  | [] => rfl
  | a :: r => by simp only [List.map_cons, PyData.hasDictAll, PyData.hasDict, nodict_all r, Bool.or_self]
theorem depth_all : ∀ (ns : List Int), PyData.depthAll (ns.map PyData.int) ≤ 1
  | [] => Nat.zero_le _
  | a :: r => by
    have := depth_all r
    simp only [List.map_cons, PyData.depthAll, PyData.depth]
    omega
theorem leaves_all : ∀ (ns : List Int), (∀ n ∈ ns, n.natAbs < 10 ^ 12) → PyData.leavesShortAll 13 (ns.map PyData.int) = true
  | [], _ => rfl
  | a :: r, h => by
    have h2 := leaves_all r fun n hn => h n (List.mem_cons_of_mem _ hn)
    have h1 : (PyData.shown (.int a)).length ≤ 13 := by
      have := PySem.int_text_length_le10 (a := a) (k := 12) (by decide) (h a List.mem_cons_self)
      have e : (PyData.shown (.int a)).length = (toString a).length := by
        simp only [PyData.shown]
        exact PySem.ofString_length _
      omega
    simp only [List.map_cons, PyData.leavesShortAll, PyData.leavesShort, h2, Bool.and_true, decide_eq_true_eq]
    exact h1
theorem weight_all : ∀ (ns : List Int), (∀ n ∈ ns, n.natAbs < 2 ^ 39) → PyData.weightAll (ns.map PyData.int) ≤ 60 * ns.length
  | [], _ => Nat.le_refl _
  | a :: r, h => by
    have h1 := weight_all r fun n hn => h n (List.mem_cons_of_mem _ hn)
    have h2 : a.natAbs.log2 < 39 := small_log (by decide) (h a List.mem_cons_self)
    simp only [List.map_cons, PyData.weightAll, PyData.weight, List.length_cons]
    split <;> omega
theorem repr_fits {ns : List Int} (h : ∀ n ∈ ns, n.natAbs < 2 ^ 39) (hl : ns.length ≤ 2000) : (reprL ns).length ≤ sizeLine := by
  refine PyData.shown_fits (B := 13) (by decide) (by decide) ?_ ?_
  · show PyData.leavesShort 13 (.list _) = true
    simp only [PyData.leavesShort, leaves_all ns fun n hn => Nat.lt_trans (h n hn) (by decide)]
  · show PyData.weight (.list _) ≤ _
    have := weight_all ns h
    simp only [PyData.weight]
    omega
theorem reads_all {h : Heap} : ∀ {us : List Value} {ns : List Int}, IntsAre us ns → ReadsAll h us (ns.map PyData.int) []
  | _, _, .nil => .nil
  | _, _, .cons n t r => by
    have z := ReadsAll.cons (Reads.int (h := h) n t) (reads_all r)
    exact z
section
variable {X : Cx}
/-- repr(xs) of a list of ints, while no repr is under way -/
def rReprL (K : PySem.W.Frag) : List V → Hp → VK → Prop := fun vs H Q => ∃ (a : Addr) (ns : List Int), vs = [V.ref a] ∧ SqL K H a (ns.map V.int) ∧ (∀ n ∈ ns, n.natAbs < 2 ^ 39) ∧ ns.length ≤ 2000 ∧ Q (.str (reprL ns)) H
theorem cr_reprL (hg : X.A.guards = some []) (hu : X.A.units + 100 < cLine) : CallR X (.builtin "repr") (rReprL X.K) := by
  intro pins s σ H vs us Q I r h
  obtain ⟨a, ns, rfl, hS, hb, hl, q⟩ := h
  rw [Vals.ref1 r]
  obtain ⟨its, rv, ⟨o, n, ho, hc, hdn, hd⟩, hz⟩ := I.list hS
  have rd : Reads s.heap (.ref a) (datL ns) [a] := .list ho hc hd (reads_all (by simpa using ints_of_vals rv))
  refine repr_of_reads' rd (by show PyData.showable (.list _) = true; simp only [PyData.showable]; exact show_all ns fun m hm => Nat.lt_trans (hb m hm) (by decide)) (PyData.noDict_hsm (by show PyData.hasDict (.list _) = false; simp only [PyData.hasDict]; exact nodict_all ns)) hg
    (by have := depth_all ns; show X.A.units + (PyData.depth (.list _) + 1) < cLine; simp only [PyData.depth]; omega) (fun _ _ e => e) (fun g u tk k => ?_) (repr_fits hb hl)
  exact ⟨.str (reprL ns), H, I.kept k, ⟨u, rfl⟩, q⟩
end
end KG

/-! the def of the law itself, called where no repr is under way -/
namespace KW
open PySem PySem.Spec PyProof.Rows L2
/-- the def at f keeps sp where it is called with no repr under way -/
def Kept (P : Program) (w : World) (K : PySem.W.Frag) (mg : Str → Option Value) (base : Heap) (k : Nat) (f : Addr) (fd : FuncData) (ps : List Str) (sp : Sp) : Prop :=
  ∀ (A : Around) (outer : List Env) (s : Shared) (H : Hp) (args : Args) (us : List Value) (vs : List V) (Q : VK) (E : XK), A.guards = some [] → Room k A → Env0 P w K mg base A outer s H →
    BindsTo s fd args (ps.zip us) → Vals vs us → sp vs H Q E → codeAny (model P w) A (.call (.ref f) args) (CR CX0 outer P w H s Q E) s
section
variable {P : Program} {w : World} {K : PySem.W.Frag} {mg : Str → Option Value} {base : Heap}
theorem kept_of {x qual : Str} {st : Stmt} {f : Addr} {fd : FuncData} {N ps : List Str} {k : Nat} {sp : Sp} (F : Fun K x qual st f fd) (S : FnScope N ps (defScope st)) (len : ∀ vs H Q E, sp vs H Q E → vs.length = ps.length)
    (hb : ∀ (cdv : Value) (A : Around) (outer : List Env) (s : Shared) (H : Hp) (vs : List V) (Q : VK) (E : XK), A.guards = some [] → Room k (A.deeper (envOfC qual (defScope st) s.heap.objs.size f cdv)) → sp vs H Q E →
      ∃ t, PSs (cxOf CX0 P w K mg base N qual (defScope st) f cdv A outer s H E).nox (defBody st) t ∧ t { nx := fun _ H' => Q .non H', rt := Q } (start N vs) H) : Kept P w K mg base (k + 1) f fd ps sp := by
  obtain ⟨oc, od, kV, doc, pm, an, cdv, ct, osl, e1, lk, hcd⟩ := F.ex
  subst e1
  intro A outer s H args us vs Q E hg hr e0 bnd r hsp
  obtain ⟨t, d, q⟩ := hb cdv A outer s H vs Q E hg (hr.deeper _) hsp
  have lv := len _ _ _ _ hsp
  have kin : K.In s.heap := e0.mod.kin.keeps fun b o e => (e0.bs b o e).1
  have kd : ∀ y ∈ ps.zip us, (defScope st).names.lookup y.1 = some .local ∨ ((defScope st).names.lookup y.1 = some .cell ∧ ((cellsFrom (s.heap.objs.size + 1) (defScope st).names []).lookup y.1).isSome = true) := by
    rintro ⟨n, v⟩ hy
    exact (S.par n (List.of_mem_zip hy).1).imp id fun z => ⟨z, PySem.W.cellsFrom_some _ _ _ (.inl z)⟩
  refine codeAny_call_function hr.depth (kin _ _ lk) rfl S.co S.gen rfl (PySem.W.codeRec_of kin hcd) (bnd _ _ _ _ (wpAny_newFunctionEnv_cells S.kind kd fun env he s1 x1 => ?_))
  subst he
  refine ⟨(e0.mod.nolimit.keeps fun b o e => (e0.bs b o e).1).keeps x1.toInCall.keep, codeAny_func (wpAny_mono (d.nox.run [] s1 (start N vs) H _ (inv_start S hr.hd e0 lv r x1) q) (fun fl s2 z => ?_) fun _ _ z => z)⟩
  match fl, z with
  | .ret u, ⟨v, σ2, H2, J, rv, q2⟩ => exact ⟨v, H2, J.os, J.bare, J.base, J.hok, rv, q2⟩
  | .next, ⟨σ2, H2, J, q2⟩ => exact ⟨V.non, H2, J.os, J.bare, J.base, J.hok, rfl, q2⟩
  | .brk, ⟨_, _, _, q2⟩ => exact q2.elim
  | .cont, ⟨_, _, _, q2⟩ => exact q2.elim
/-- the heap that tracks the script alone, or nothing where it is the text's own -/
def hpOf (K : PySem.W.Frag) (a : Addr) (o : Obj) (xs : List V) : Hp := fun b => if b = a ∧ K.lookup a = none then some (.frz o (.lst xs)) else none
theorem hpOf_some {K : PySem.W.Frag} {a b : Addr} {o : Obj} {xs : List V} {u : HO} (e : hpOf K a o xs b = some u) : b = a ∧ K.lookup a = none ∧ u = .frz o (.lst xs) := by
  unfold hpOf at e
  split at e
  · rename_i z
    exact ⟨z.1, z.2, (Option.some.inj e).symm⟩
  · cases e
theorem run_law {mb : Str → Option Value} {k : Nat} {fa a : Addr} {fd : FuncData} {x : Str} {sp : Sp} {s1 : Shared} {vs : List Value} {ns : List Int}
    (kin : K.In s1.heap) (h1 : s1.heap.Ns mainGlobals mg) (h2 : s1.heap.Ns builtinsNs mb) (h3 : ∀ y : Str, y ≠ "__name__" → mb y = bootBuiltins y) (h4 : s1.heap.NoLimit) (h5 : s1.gens = #[])
    (ha : s1.heap.get? a = some { cls := .type "list", data := .seq vs.toArray }) (hi : IntsAre vs ns) (hl : ns.length ≤ sizeLine) (hr : Room k callerA)
    (F : ∀ bs : Heap, K.In bs → bs.Ns mainGlobals mg → Kept P w K mg bs k fa fd [x] sp) (hbd : ∀ (s : Shared) (u : Value), BindsTo s fd ⟨[u], []⟩ [(x, u)])
    (hsp : ∀ H : Hp, Only H → SqL K H a (ns.map V.int) → sp [.ref a] H (fun v _ => v = .bl true) fun _ _ _ => False) :
    codeAny (model P w) callerA (.call (.ref fa) ⟨[.ref a], []⟩) (fun r s' => r = .ok (.ret (.bool true)) ∧ OldK s1.heap s'.heap ∧ s'.os = s1.os ∧ AllBare s'.gens) s1 := by
  have rv := vals_ints hi
  let ob : Obj := { cls := .type "list", data := .seq vs.toArray }
  generalize hH : hpOf K a ob (ns.map V.int) = H
  have hsome : ∀ {b u}, H b = some u → b = a ∧ K.lookup a = none ∧ u = .frz ob (.lst (ns.map V.int)) := fun {b u} e => hpOf_some (by rw [hH]; exact e)
  have hO : Only H := fun b => by
    cases e : H b with
    | none => exact .inl rfl
    | some u => exact .inr ⟨_, _, by rw [(hsome e).2.2]⟩
  have hS : SqL K H a (ns.map V.int) := by
    cases e : K.lookup a with
    | none => exact .inl (.inr ⟨ob, by rw [← hH]; exact if_pos ⟨rfl, e⟩⟩)
    | some o =>
      have e2 := kin a o e
      rw [ha] at e2
      cases e2
      exact .inr ⟨_, vs.toArray, _, e, rfl, rfl, rfl, by rw [List.size_toArray, hi.length]; exact hl, by simpa using rv⟩
  have hok : HOk P w H s1.heap := fun b u e => by
    obtain ⟨rfl, _, rfl⟩ := hsome e
    exact ⟨ha, by rw [List.length_map]; exact hl, vs, _, rv, ha⟩
  have free : ∀ {b : Addr} {o : Obj} {es : Array DictEntry} {ep : Nat}, s1.heap.get? b = some o → o.data = .dict es ep → H b = none := fun {b o es ep} e d => by
    cases z : H b with
    | none => rfl
    | some u =>
      obtain ⟨rfl, _, _⟩ := hsome z
      rw [ha] at e
      cases e
      cases d
  have toB : ∀ {b : Addr} {m : Str → Option Value}, s1.heap.Ns b m → (hidT s1.heap H).Ns b m := fun {b m} ⟨o, es, ep, e, d, r⟩ => ⟨o, es, ep, hidT_get e (free e d), d, r⟩
  have kB : K.In (hidT s1.heap H) := fun b o e => hidT_get (kin b o e) (by
    cases z : H b with
    | none => rfl
    | some u =>
      obtain ⟨rfl, z2, _⟩ := hsome z
      rw [z2] at e
      cases e)
  obtain ⟨mc, m1, m2⟩ := h4
  have e0 : Env0 P w K mg (hidT s1.heap H) callerA [] s1 H := ⟨rfl, ⟨kB, toB h1, ⟨mb, toB h2, h3⟩, ⟨mc, toB m1, m2⟩⟩, fun b o e => of_hidT e, Nat.le_of_eq (hidT_size _ _), trivial, fun b hb => (List.not_mem_nil (show b ∈ ([] : List Addr) from hb)).elim, hok, .of_eq h5⟩
  refine codeAny_mono (F _ kB (toB h1) callerA [] s1 H ⟨[.ref a], []⟩ [.ref a] [.ref a] _ _ rfl hr e0 (hbd s1 (.ref a)) (.cons rfl .nil) (hsp H hO hS)) fun r s2 z => ?_
  match r, z with
  | .error _, z => exact z.elim
  | .ok .next, z => exact z.elim
  | .ok .brk, z => exact z.elim
  | .ok .cont, z => exact z.elim
  | .ok (.ret u), ⟨v, H2, os, bare, un, hok2, rr, q⟩ =>
    have q2 : v = .bl true := q
    subst q2
    obtain rfl : u = Value.bool true := rr
    refine ⟨rfl, OldK.of_keep fun b o e => ?_, os, bare⟩
    cases z : H b with
    | none => exact un.keep b o e z (fun m => (List.not_mem_nil (show b ∈ ([] : List Addr) from m)).elim) (by simp)
    | some u =>
      obtain ⟨_, _, rfl⟩ := hsome z
      have t1 := (hok b _ z).1
      have t2 := (hok2 b _ (un.frzs b ob _ z)).1
      rw [e] at t1
      rw [t2, ← t1]
/-- the end: the law's promise over the written part alone -/
theorem walk_kept {l : PySem.W.OpenLaw} {n k : Nat} {q : Program} {loose : List Str} {XP : (Str → Option Value) → Heap → Prop} {YP : World → Heap → Prop} {d : DefRec} {KK : Params → PySem.W.Frag} {sp : PySem.W.Frag → Sp} {x : Str}
    (hn : l.most = some n) (hn2 : n ≤ sizeLine) (hdf : d.params.defaults = []) (hr : Room k callerA) (hY : ∀ (w : World) (h : Heap), YP w h → (KK w.params).In h)
    (F : ∀ (w : World) (mg : Str → Option Value) (fa : Addr) (h : Heap), (KK w.params).In h → h.Ns mainGlobals mg → mg d.name = some (.ref fa) →
      ∃ fd : FuncData, (∀ (s : Shared) (u : Value), BindsTo s fd ⟨[u], []⟩ [(x, u)]) ∧ ∀ bs : Heap, (KK w.params).In bs → bs.Ns mainGlobals mg → Kept l.prog w (KK w.params) mg bs k fa fd [x] (sp (KK w.params)))
    (hsp : ∀ (K : PySem.W.Frag) (H : Hp) (a : Addr) (ns : List Int), ns.length ≤ n → Only H → SqL K H a (ns.map V.int) → sp K [.ref a] H (fun v _ => v = .bl true) fun _ _ _ => False) :
    PySem.W.WalkO q loose XP YP l.row.toRowW d [] (fun f vs => PySem.call f vs) := by
  refine Att.attach_call hn hdf fun w s0 s1 mg mb fa o pm cd doc a vs ns G Y ho hd hcd hmg hobj hints hlen hg => ?_
  obtain ⟨fd, hb, hF⟩ := F w mg fa _ (hY w _ Y) G.T.g hmg
  exact run_law (hY w _ Y) G.T.g G.T.b G.T.builtins G.T.nolimit hg hobj hints (Nat.le_trans hlen hn2) hr hF hb fun H hO hS => hsp (KK w.params) H a ns hlen hO hS
end
end KW

/-! turning points, as mathematics: the stack's way and the law's way -/
namespace PM
/-- r lies between its neighbours b and a -/
abbrev Btw (r b a : Int) : Prop := (b < r ∧ r < a) ∨ (a < r ∧ r < b)
/-- the stack's way from b, a (a on top) on -/
def tq : Int → Int → List Int → List Int
  | _, a, [] => [a]
  | b, a, r :: l => if a = r then tq b a l else if Btw a b r then tq b r l else a :: tq a r l
def ts : Int → List Int → List Int
  | a, [] => [a]
  | a, r :: l => if a = r then ts a l else a :: tq a r l
def tp : List Int → List Int
  | [] => []
  | x :: l => ts x l
/-- repeated readings once -/
def ddf : Int → List Int → List Int
  | _, [] => []
  | p, x :: l => if x = p then ddf p l else x :: ddf x l
def dd : List Int → List Int
  | [] => []
  | x :: l => x :: ddf x l
/-- the law's way, over readings that differ from their neighbours -/
def lq : Int → Int → List Int → List Int
  | _, c, [] => [c]
  | p, c, d :: l => if (decide (c > p) = decide (c > d)) then c :: lq c d l else lq c d l
def lp : List Int → List Int
  | [] => []
  | [x] => [x]
  | x :: y :: l => x :: lq x y l
theorem tq_lq : ∀ (l : List Int) (b p a : Int), a ≠ b → a ≠ p → (a > b ↔ a > p) → tq b a l = lq p a (ddf a l)
  | [], _, _, _, _, _, _ => rfl
  | r :: l, b, p, a, h1, h2, h3 => by
    simp only [tq, ddf]
    by_cases e : a = r
    · rw [if_pos e, if_pos e.symm]
      exact tq_lq l b p a h1 h2 h3
    · rw [if_neg e, if_neg (show ¬ r = a from fun z => e z.symm)]
      simp only [lq]
      by_cases bt : Btw a b r
      · rw [if_pos bt]
        have hk : ¬ (decide (a > p) = decide (a > r)) := by
          intro z
          rw [decide_eq_decide] at z
          omega
        rw [if_neg hk]
        exact tq_lq l b a r (by omega) (fun z => e z.symm) (by omega)
      · rw [if_neg bt]
        have hk : decide (a > p) = decide (a > r) := by
          rw [decide_eq_decide]
          omega
        rw [if_pos hk]
        rw [tq_lq l a a r (fun z => e z.symm) (fun z => e z.symm) Iff.rfl]
theorem ts_lp : ∀ (l : List Int) (a : Int), ts a l = lp (a :: ddf a l)
  | [], _ => rfl
  | r :: l, a => by
    simp only [ts, ddf]
    by_cases e : a = r
    · rw [if_pos e, if_pos e.symm]
      exact ts_lp l a
    · rw [if_neg e, if_neg (show ¬ r = a from fun z => e z.symm)]
      rw [tq_lq l a a r (fun z => e z.symm) (fun z => e z.symm) Iff.rfl]
      rfl
theorem tp_lp (ns : List Int) : tp ns = lp (dd ns) := by
  cases ns with
  | nil => rfl
  | cons a l => exact ts_lp l a
/-- what the stack leaves, goes through the stack as it is -/
theorem tq_again : ∀ (l : List Int) (b a : Int), a ≠ b → ∃ x s, tq b a l = x :: s ∧ x ≠ b ∧ (x > b ↔ a > b) ∧ tq b x s = x :: s
  | [], b, a, h => ⟨a, [], rfl, h, Iff.rfl, rfl⟩
  | r :: l, b, a, h => by
    simp only [tq]
    by_cases e : a = r
    · rw [if_pos e]
      exact tq_again l b a h
    · rw [if_neg e]
      by_cases bt : Btw a b r
      · rw [if_pos bt]
        obtain ⟨x, s, h1, h2, h3, h4⟩ := tq_again l b r (by omega)
        exact ⟨x, s, h1, h2, by omega, h4⟩
      · rw [if_neg bt]
        obtain ⟨y, s, h1, h2, h3, h4⟩ := tq_again l a r (fun z => e z.symm)
        refine ⟨a, y :: s, by rw [h1], h, Iff.rfl, ?_⟩
        simp only [tq]
        have n1 : ¬ Btw a b y := by
          intro z
          have h6 : r > a ↔ y > a := h3.symm
          omega
        rw [if_neg (fun z : a = y => h2 z.symm), if_neg n1, h4]
theorem ts_again : ∀ (l : List Int) (a : Int), tp (ts a l) = ts a l
  | [], _ => rfl
  | r :: l, a => by
    simp only [ts]
    by_cases e : a = r
    · rw [if_pos e]
      exact ts_again l a
    · rw [if_neg e]
      obtain ⟨x, s, h1, h2, _, h4⟩ := tq_again l a r (fun z => e z.symm)
      rw [h1]
      show ts a (x :: s) = a :: x :: s
      simp only [ts]
      rw [if_neg (fun z : a = x => h2 z.symm), h4]
theorem tp_again (ns : List Int) : tp (tp ns) = tp ns := by
  cases ns with
  | nil => rfl
  | cons a l => exact ts_again l a
theorem tq_last : ∀ (l : List Int) (b a z : Int), (a :: l).getLast? = some z → tq b a (l ++ [z]) = tq b a l
  | [], b, a, z, h => by
    have e : a = z := Option.some.inj h
    subst e
    show tq b a [a] = [a]
    simp only [tq, if_true]
  | r :: l, b, a, z, h => by
    have h2 : (r :: l).getLast? = some z := by rw [List.getLast?_cons_cons] at h; exact h
    show tq b a (r :: (l ++ [z])) = tq b a (r :: l)
    simp only [tq]
    by_cases e : a = r
    · rw [if_pos e, if_pos e]
      subst e
      exact tq_last l b a z h2
    · rw [if_neg e, if_neg e, tq_last l b r z h2, tq_last l a r z h2]
theorem ts_last : ∀ (l : List Int) (a z : Int), (a :: l).getLast? = some z → ts a (l ++ [z]) = ts a l
  | [], a, z, h => by
    have e : a = z := Option.some.inj h
    subst e
    show ts a [a] = [a]
    simp only [ts, if_true]
  | r :: l, a, z, h => by
    have h2 : (r :: l).getLast? = some z := by rw [List.getLast?_cons_cons] at h; exact h
    show ts a (r :: (l ++ [z])) = ts a (r :: l)
    simp only [ts]
    by_cases e : a = r
    · rw [if_pos e, if_pos e]
      subst e
      exact ts_last l a z h2
    · rw [if_neg e, if_neg e, tq_last l a r z h2]
theorem tp_last (ns : List Int) (z : Int) (h : ns.getLast? = some z) : tp (ns ++ [z]) = tp ns := by
  cases ns with
  | nil => simp at h
  | cons a l => exact ts_last l a z h
/-- sizes and bounds -/
theorem tq_mem : ∀ (l : List Int) (b a x : Int), x ∈ tq b a l → x = a ∨ x ∈ l
  | [], _, _, x, h => .inl (List.mem_singleton.mp h)
  | r :: l, b, a, x, h => by
    simp only [tq] at h
    split at h
    · rcases tq_mem l b a x h with z | z
      · exact .inl z
      · exact .inr (List.mem_cons_of_mem _ z)
    · split at h
      · rcases tq_mem l b r x h with z | z
        · rw [z]; exact .inr List.mem_cons_self
        · exact .inr (List.mem_cons_of_mem _ z)
      · rcases List.mem_cons.mp h with z | z
        · exact .inl z
        · rcases tq_mem l a r x z with z | z
          · rw [z]; exact .inr List.mem_cons_self
          · exact .inr (List.mem_cons_of_mem _ z)
theorem tq_len : ∀ (l : List Int) (b a : Int), (tq b a l).length ≤ l.length + 1
  | [], _, _ => Nat.le_refl _
  | r :: l, b, a => by
    have h1 := tq_len l b a
    have h2 := tq_len l b r
    have h3 := tq_len l a r
    simp only [tq, List.length_cons]
    split
    · omega
    · split
      · omega
      · rw [List.length_cons]; omega
theorem ts_mem : ∀ (l : List Int) (a x : Int), x ∈ ts a l → x = a ∨ x ∈ l
  | [], _, x, h => .inl (List.mem_singleton.mp h)
  | r :: l, a, x, h => by
    simp only [ts] at h
    split at h
    · rcases ts_mem l a x h with z | z
      · exact .inl z
      · exact .inr (List.mem_cons_of_mem _ z)
    · rcases List.mem_cons.mp h with z | z
      · exact .inl z
      · rcases tq_mem l a r x z with z | z
        · rw [z]; exact .inr List.mem_cons_self
        · exact .inr (List.mem_cons_of_mem _ z)
theorem ts_len : ∀ (l : List Int) (a : Int), (ts a l).length ≤ l.length + 1
  | [], _ => Nat.le_refl _
  | r :: l, a => by
    have h1 := ts_len l a
    have h2 := tq_len l a r
    simp only [ts, List.length_cons]
    split
    · omega
    · rw [List.length_cons]; omega
theorem tp_mem {ns : List Int} {x : Int} (h : x ∈ tp ns) : x ∈ ns := by
  cases ns with
  | nil => exact h
  | cons a l =>
    rcases ts_mem l a x h with z | z
    · rw [z]; exact List.mem_cons_self
    · exact List.mem_cons_of_mem _ z
theorem tp_len (ns : List Int) : (tp ns).length ≤ ns.length := by
  cases ns with
  | nil => exact Nat.le_refl _
  | cons a l => exact ts_len l a
/-- the swings of turning points -/
def rg (a b : Int) : Int × Int := (if b < a then b else a, if b > a then b else a)
def sw : List Int → List (Int × Int)
  | x :: y :: l => rg x y :: sw (y :: l)
  | _ => []
theorem sw_len : ∀ ps : List Int, (sw ps).length = ps.length - 1
  | [] => rfl
  | [_] => rfl
  | x :: y :: l => by
    have := sw_len (y :: l)
    simp only [sw, List.length_cons] at this ⊢
    omega
theorem sw_take : ∀ (ps : List Int) (i : Nat) (x y : Int), ps[i]? = some x → ps[i + 1]? = some y → (sw ps).take (i + 1) = (sw ps).take i ++ [rg x y]
  | [], _, _, _, h, _ => by simp at h
  | [_], 0, _, _, _, h => by simp at h
  | [_], i + 1, _, _, h, _ => by simp at h
  | a :: b :: l, 0, x, y, h, h2 => by
    have e1 : a = x := Option.some.inj h
    have e2 : b = y := Option.some.inj h2
    subst e1 e2
    rfl
  | a :: b :: l, i + 1, x, y, h, h2 => by
    have ih := sw_take (b :: l) i x y h h2
    show rg a b :: (sw (b :: l)).take (i + 1) = rg a b :: (sw (b :: l)).take i ++ [rg x y]
    rw [ih]
    rfl
theorem sw_mem : ∀ (ps : List Int) (B : Nat), (∀ x ∈ ps, x.natAbs < B) → ∀ r ∈ sw ps, r.1.natAbs < B ∧ r.2.natAbs < B
  | [], _, _, r, h => by simp [sw] at h
  | [_], _, _, r, h => by simp [sw] at h
  | x :: y :: l, B, hb, r, h => by
    rcases List.mem_cons.mp (show r ∈ rg x y :: sw (y :: l) from h) with z | z
    · have h1 := hb x List.mem_cons_self
      have h2 := hb y (List.mem_cons_of_mem _ List.mem_cons_self)
      rw [z]
      unfold rg
      constructor <;> (dsimp only; split <;> assumption)
    · exact sw_mem (y :: l) B (fun x hx => hb x (List.mem_cons_of_mem _ hx)) r z
end PM

/-! points taken out, in any order: one count -/
namespace RM
open PM
/-- of four points in a row, the middle two may be taken out -/
abbrev Taken (a b c d : Int) : Prop := ((rg a b).1 ≤ (rg b c).1 ∧ (rg b c).2 ≤ (rg a b).2) ∧ ((rg c d).1 ≤ (rg b c).1 ∧ (rg b c).2 ≤ (rg c d).2)
/-- up and down by turns -/
def ZZ : List Int → Prop
  | x :: y :: z :: r => ((x < y ∧ z < y) ∨ (y < x ∧ y < z)) ∧ ZZ (y :: z :: r)
  | [x, y] => x ≠ y
  | _ => True
inductive Step : List Int → Int × Int → List Int → Prop
  | here {a b c d : Int} {post : List Int} : Taken a b c d → Step (a :: b :: c :: d :: post) (rg b c) (a :: d :: post)
  | there {x : Int} {p q : List Int} {cy : Int × Int} : Step p cy q → Step (x :: p) cy (x :: q)
theorem ZZ.tail {x : Int} : ∀ {p : List Int}, ZZ (x :: p) → ZZ p
  | [], _ => trivial
  | [_], _ => trivial
  | [y, z], h => by
    have h1 := h.1
    show y ≠ z
    omega
  | y :: z :: u :: r, h => h.2
theorem Step.head {x : Int} {p q : List Int} {cy : Int × Int} (h : Step (x :: p) cy q) : ∃ q', q = x :: q' := by
  cases h with
  | here _ => exact ⟨_, rfl⟩
  | there _ => exact ⟨_, rfl⟩
theorem Step.len {p q : List Int} {cy : Int × Int} (h : Step p cy q) : p.length = q.length + 2 := by
  induction h with
  | here _ => simp only [List.length_cons]
  | there _ ih => simp only [List.length_cons]; omega
theorem rg_up {a b : Int} (h : a < b) : rg a b = (a, b) := by unfold rg; rw [if_neg (by omega), if_pos (by omega)]
theorem rg_down {a b : Int} (h : b < a) : rg a b = (b, a) := by unfold rg; rw [if_pos h, if_neg (by omega)]
/-- among points that go up and down -/
theorem taken_iff {a b c d : Int} (h : ZZ (a :: b :: c :: d :: [])) : Taken a b c d ↔ (a < b ∧ c < b ∧ c < d ∧ a ≤ c ∧ b ≤ d) ∨ (b < a ∧ b < c ∧ d < c ∧ c ≤ a ∧ d ≤ b) := by
  have h1 := h.1
  have h2 := h.2.1
  unfold Taken
  rcases h1 with ⟨x, y⟩ | ⟨x, y⟩
  · have z : c < d := by omega
    rw [rg_up x, rg_down y, rg_up z]
    dsimp only
    omega
  · have z : d < c := by omega
    rw [rg_down x, rg_up y, rg_down z]
    dsimp only
    omega
theorem ZZ.four {a b c d : Int} {r : List Int} (h : ZZ (a :: b :: c :: d :: r)) : ZZ (a :: b :: c :: d :: []) := by
  refine ⟨h.1, h.2.1, ?_⟩
  have := h.2.1
  show c ≠ d
  omega
theorem zz_here {a b c d : Int} : ∀ {post : List Int}, ZZ (a :: b :: c :: d :: post) → Taken a b c d → ZZ (a :: d :: post)
  | [], h, t => by
    rcases (taken_iff h.four).mp t with z | z
    · show a ≠ d
      omega
    · show a ≠ d
      omega
  | e :: r, h, t => by
    have h3 := h.2.2.1
    refine ⟨?_, h.2.2.2⟩
    rcases (taken_iff h.four).mp t with z | z <;> omega
theorem zz_cons {x y : Int} {p : List Int} (h : ZZ (x :: y :: p)) : x ≠ y := by
  cases p with
  | nil => exact h
  | cons z r => have := h.1; omega
theorem ZZ.step {p q : List Int} {cy : Int × Int} (h : Step p cy q) : ZZ p → ZZ q := by
  induction h with
  | here t => exact fun z => zz_here z t
  | @there x p q cy h ih =>
    intro z
    have zq := ih z.tail
    cases h with
    | @here a b c d post t =>
      have z1 := z.1
      have ti := (taken_iff z.tail.four).mp t
      refine ⟨?_, zq⟩
      rcases ti with t | t <;> omega
    | @there y p' q' cy' h' =>
      cases q' with
      | nil =>
        have := h'.len
        exact zz_cons z
      | cons u v =>
        cases p' with
        | nil => have := h'.len; simp at this
        | cons u' v' =>
          obtain ⟨v'', e⟩ := h'.head
          have e1 : u = u' := (List.cons.inj e).1
          subst e1
          exact ⟨z.1, zq⟩
/-- two ways to go on meet again -/
theorem diamond {p p1 : List Int} {c1 : Int × Int} (h1 : Step p c1 p1) : ∀ {p2 : List Int} {c2 : Int × Int}, Step p c2 p2 → ZZ p → (c1 = c2 ∧ p1 = p2) ∨ ∃ p3, Step p1 c2 p3 ∧ Step p2 c1 p3 := by
  have key : ∀ {a b c d : Int} {post : List Int} {p2 : List Int} {c2 : Int × Int}, Taken a b c d → Step (b :: c :: d :: post) c2 p2 → ZZ (a :: b :: c :: d :: post) →
      (rg b c = c2 ∧ a :: d :: post = a :: p2) ∨ ∃ p3, Step (a :: d :: post) c2 p3 ∧ Step (a :: p2) (rg b c) p3 := by
    intro a b c d post p2 c2 t h z
    have t1 := (taken_iff z.four).mp t
    cases h with
    | @here _ _ _ e post' t2 =>
      have t3 := (taken_iff z.tail.four).mp t2
      have ebd : b = d := by omega
      subst ebd
      refine .inl ⟨?_, rfl⟩
      have z1 := z.1
      rcases z1 with ⟨x, y⟩ | ⟨x, y⟩
      · rw [rg_down y, rg_up y]
      · rw [rg_up y, rg_down y]
    | @there _ _ q2 _ h2 =>
      cases h2 with
      | @here _ _ e f post' t2 =>
        have t3 := (taken_iff z.tail.tail.four).mp t2
        have za : ZZ (a :: d :: e :: f :: post') := zz_here z t
        have zb : ZZ (a :: b :: c :: f :: post') := ZZ.step (.there (.there (.here t2))) z
        exact .inr ⟨a :: f :: post', .here ((taken_iff za.four).mpr (by omega)), .here ((taken_iff zb.four).mpr (by omega))⟩
      | @there _ _ q3 _ h3 =>
        obtain ⟨q4, rfl⟩ := h3.head
        exact .inr ⟨a :: d :: q4, .there h3, .here t⟩
  induction h1 with
  | @here a b c d post t =>
    intro p2 c2 h2 z
    cases h2 with
    | here _ => exact .inl ⟨rfl, rfl⟩
    | @there _ _ q2 _ h2 => exact key t h2 z
  | @there x p q cy h1 ih =>
    intro p2 c2 h2 z
    cases h2 with
    | @here a b c d post t =>
      rcases key t h1 z with ⟨e1, e2⟩ | ⟨p3, s1, s2⟩
      · exact .inl ⟨e1.symm, e2.symm⟩
      · exact .inr ⟨p3, s2, s1⟩
    | @there _ _ q2 _ h2 =>
      rcases ih h2 z.tail with ⟨e1, e2⟩ | ⟨p3, s1, s2⟩
      · exact .inl ⟨e1, by rw [e2]⟩
      · exact .inr ⟨x :: p3, .there s1, .there s2⟩
inductive Run : List Int → List (Int × Int) → List Int → Prop
  | nil (p : List Int) : Run p [] p
  | cons {p q r : List Int} {c : Int × Int} {cs : List (Int × Int)} : Step p c q → Run q cs r → Run p (c :: cs) r
/-- nothing can be taken out -/
def NF (p : List Int) : Prop := ∀ c q, ¬ Step p c q
theorem Run.snoc {p q r : List Int} {c : Int × Int} {cs : List (Int × Int)} (h : Run p cs q) (s : Step q c r) : Run p (cs ++ [c]) r := by
  induction h with
  | nil p => exact .cons s (.nil _)
  | cons h1 _ ih => exact .cons h1 (ih s)
theorem Run.zz {p q : List Int} {cs : List (Int × Int)} (h : Run p cs q) : ZZ p → ZZ q := by
  induction h with
  | nil p => exact id
  | cons h1 _ ih => exact fun z => ih (ZZ.step h1 z)
theorem Run.len {p q : List Int} {cs : List (Int × Int)} (h : Run p cs q) : p.length = q.length + 2 * cs.length := by
  induction h with
  | nil p => simp
  | cons h1 _ ih => have := h1.len; rw [List.length_cons]; omega
theorem ends : ∀ (n : Nat) (p : List Int), p.length ≤ n → ∃ cs r, Run p cs r ∧ NF r
  | 0, p, h => ⟨[], p, .nil p, fun c q s => by have := s.len; omega⟩
  | n + 1, p, h => by
    by_cases e : ∃ c q, Step p c q
    · obtain ⟨c, q, s⟩ := e
      have := s.len
      obtain ⟨cs, r, h1, h2⟩ := ends n q (by omega)
      exact ⟨c :: cs, r, .cons s h1, h2⟩
    · exact ⟨[], p, .nil p, fun c q s => e ⟨c, q, s⟩⟩
/-- in whatever order points are taken out, the same cycles and the same rest come out -/
theorem unique : ∀ (n : Nat) (p : List Int), p.length ≤ n → ZZ p → ∀ {cs ds : List (Int × Int)} {r s : List Int}, Run p cs r → NF r → Run p ds s → NF s → r = s ∧ cs.Perm ds := by
  intro n
  induction n with
  | zero =>
    intro p hp z cs ds r s h1 n1 h2 n2
    cases h1 with
    | nil _ => cases h2 with
      | nil _ => exact ⟨rfl, .nil⟩
      | cons s2 _ => exact absurd s2 (n1 _ _)
    | cons s1 _ => have := s1.len; omega
  | succ n ih =>
    intro p hp z cs ds r s h1 n1 h2 n2
    cases h1 with
    | nil _ => cases h2 with
      | nil _ => exact ⟨rfl, .nil⟩
      | cons s2 _ => exact absurd s2 (n1 _ _)
    | @cons _ q1 _ c1 cs' s1 r1 =>
      cases h2 with
      | nil _ => exact absurd s1 (n2 _ _)
      | @cons _ q2 _ c2 ds' s2 r2 =>
        have l1 := s1.len
        have l2 := s2.len
        rcases diamond s1 s2 z with ⟨e1, e2⟩ | ⟨p3, t1, t2⟩
        · subst e1 e2
          obtain ⟨e, pm⟩ := ih q1 (by omega) (ZZ.step s1 z) r1 n1 r2 n2
          exact ⟨e, pm.cons _⟩
        · obtain ⟨es, t, r3, n3⟩ := ends p3.length p3 (Nat.le_refl _)
          obtain ⟨e1, m1⟩ := ih q1 (by omega) (ZZ.step s1 z) r1 n1 (.cons t1 r3) n3
          obtain ⟨e2, m2⟩ := ih q2 (by omega) (ZZ.step s2 z) r2 n2 (.cons t2 r3) n3
          refine ⟨e1.trans e2.symm, ?_⟩
          exact ((m1.cons c1).trans (.swap c2 c1 es)).trans (m2.symm.cons c2)
theorem one_count {p : List Int} (z : ZZ p) {cs ds : List (Int × Int)} {r s : List Int} (h1 : Run p cs r) (n1 : NF r) (h2 : Run p ds s) (n2 : NF s) : r = s ∧ cs.Perm ds := unique p.length p (Nat.le_refl _) z h1 n1 h2 n2
/-! ### the stack's way -/
theorem Step.suffix {p q : List Int} {cy : Int × Int} (h : Step p cy q) (l : List Int) : Step (p ++ l) cy (q ++ l) := by
  induction h with
  | here t => exact .here t
  | there _ ih => exact .there ih
theorem Step.prefix {p q : List Int} {cy : Int × Int} (h : Step p cy q) : ∀ l : List Int, Step (l ++ p) cy (l ++ q)
  | [] => h
  | x :: l => .there (h.prefix l)
theorem step_last {p : List Int} {cy : Int × Int} {q : List Int} (h : Step p cy q) : ∀ {m : List Int} {x : Int}, p = m ++ [x] → (∃ q', Step m cy q' ∧ q = q' ++ [x]) ∨ ∃ pre a b c, p = pre ++ [a, b, c, x] ∧ Taken a b c x := by
  induction h with
  | @here a b c d post t =>
    intro m x e
    rcases List.eq_nil_or_concat post with rfl | ⟨post', y, rfl⟩
    · have e2 : [a, b, c] ++ [d] = m ++ [x] := e
      obtain ⟨_, e4⟩ := List.append_inj' e2 rfl
      have e5 : d = x := (List.cons.inj e4).1
      subst e5
      exact .inr ⟨[], a, b, c, rfl, t⟩
    · have e2 : (a :: b :: c :: d :: post') ++ [y] = m ++ [x] := by rw [← e]; simp
      obtain ⟨e3, e4⟩ := List.append_inj' e2 rfl
      have e5 : y = x := (List.cons.inj e4).1
      subst e5 e3
      exact .inl ⟨a :: d :: post', .here t, by simp⟩
  | @there y p q cy h ih =>
    intro m x e
    cases m with
    | nil =>
      have e2 : p = [] := (List.cons.inj e).2
      subst e2
      cases h
    | cons y' m' =>
      obtain ⟨e1, e2⟩ := List.cons.inj e
      subst e1
      rcases ih e2 with ⟨q', s, e3⟩ | ⟨pre, a, b, c, e3, t⟩
      · exact .inl ⟨y :: q', .there s, by rw [e3]; rfl⟩
      · exact .inr ⟨y :: pre, a, b, c, by rw [e3]; rfl, t⟩
theorem nf_push {m : List Int} {x : Int} (h : NF m) (n : ∀ pre a b c, m ++ [x] = pre ++ [a, b, c, x] → ¬ Taken a b c x) : NF (m ++ [x]) := by
  intro cy q s
  rcases step_last s rfl with ⟨q', s', _⟩ | ⟨pre, a, b, c, e, t⟩
  · exact h _ _ s'
  · exact n pre a b c e t
theorem nf_prefix {m l : List Int} (h : NF (m ++ l)) : NF m := fun cy q s => h _ _ (s.suffix l)
/-- turning points go up and down -/
theorem tq_zz : ∀ (l : List Int) (b a : Int), a ≠ b → ∃ x s, tq b a l = x :: s ∧ (x > b ↔ a > b) ∧ x ≠ b ∧ ZZ (b :: x :: s)
  | [], b, a, h => ⟨a, [], rfl, Iff.rfl, h, fun z => h z.symm⟩
  | r :: l, b, a, h => by
    simp only [tq]
    by_cases e : a = r
    · rw [if_pos e]
      exact tq_zz l b a h
    · rw [if_neg e]
      by_cases bt : Btw a b r
      · rw [if_pos bt]
        obtain ⟨x, s, h1, h2, h3, h4⟩ := tq_zz l b r (by omega)
        exact ⟨x, s, h1, by omega, h3, h4⟩
      · rw [if_neg bt]
        obtain ⟨y, s, h1, h2, h3, h4⟩ := tq_zz l a r (fun z => e z.symm)
        refine ⟨a, y :: s, by rw [h1], Iff.rfl, h, ?_, h4⟩
        have h5 : y > a ↔ r > a := h2
        omega
theorem ts_zz : ∀ (l : List Int) (a : Int), ZZ (ts a l)
  | [], _ => trivial
  | r :: l, a => by
    simp only [ts]
    by_cases e : a = r
    · rw [if_pos e]
      exact ts_zz l a
    · rw [if_neg e]
      obtain ⟨x, s, h1, _, _, h4⟩ := tq_zz l a r (fun z => e z.symm)
      rw [h1]
      exact h4
theorem tp_zz (ns : List Int) : ZZ (tp ns) := by
  cases ns with
  | nil => exact trivial
  | cons a l => exact ts_zz l a
end RM

/-! heaps; the texts of data; a walk over two tuples -/
namespace KA
open PySem PySem.Spec PyProof.Rows L2
theorem same_new {H : Hp} {p : Addr} {o : HO} (h : H p = none) : Same H (upd H p o) := fun b x e => by
  rw [upd_ne (ne_of_none e h)]
  exact e
theorem same_again {H0 H : Hp} {p : Addr} {o : HO} (h : H0 p = none) (s : Same H0 H) : Same H0 (upd H p o) := fun b x e => by
  rw [upd_ne (ne_of_none e h)]
  exact s b x e
theorem SqT_same {K : PySem.W.Frag} {H H' : Hp} {a : Addr} {xs : List V} (e : Same H H') (h : SqT K H a xs) : SqT K H' a xs := by
  rcases h with (h | ⟨o, h⟩) | h
  · exact .inl (.inl (e _ _ h))
  · exact .inl (.inr ⟨o, e _ _ h⟩)
  · exact .inr h
theorem int_at {ns : List Int} {i : Nat} {x : V} (h : (ns.map V.int)[i]? = some x) : ∃ r, ns[i]? = some r ∧ x = .int r := by
  rw [List.getElem?_map] at h
  cases e : ns[i]? with
  | none => rw [e] at h; cases h
  | some r => rw [e] at h; exact ⟨r, rfl, (Option.some.inj h).symm⟩
theorem small3000 {n : Nat} (h : n ≤ 3000) : n < sizeLine := Nat.lt_of_le_of_lt h (by decide)
theorem at_int {ns : List Int} {i : Nat} {r : Int} (h : ns[i]? = some r) : (ns.map V.int)[i]? = some (.int r) := by
  rw [List.getElem?_map, h]
  rfl
end KA
namespace KB
end KB
namespace PH
open PySem PySem.Spec PyProof.Rows L2 KA
/-- a list or a tuple of xs stands at a -/
def Sq (K : PySem.W.Frag) (H : Hp) (a : Addr) (xs : List V) : Prop := SqL K H a xs ∨ SqT K H a xs
theorem Sq.same {K : PySem.W.Frag} {H H' : Hp} {a : Addr} {xs : List V} (h : Sq K H a xs) (e : Same H H') : Sq K H' a xs := h.elim (fun z => .inl (e.seq z)) (fun z => .inr (SqT_same e z))
/-- pairs of ints stand at the refs of xs -/
def PairsAt (H : Hp) : List V → List (Int × Int) → Prop
  | [], [] => True
  | x :: xs, r :: rs => (∃ p, x = .ref p ∧ H p = some (.tup [.int r.1, .int r.2])) ∧ PairsAt H xs rs
  | _, _ => False
theorem PairsAt.same {H H' : Hp} (e : Same H H') : ∀ {xs : List V} {rs : List (Int × Int)}, PairsAt H xs rs → PairsAt H' xs rs
  | [], [], _ => trivial
  | x :: xs, r :: rs, ⟨⟨p, h1, h2⟩, h3⟩ => ⟨⟨p, h1, e _ _ h2⟩, PairsAt.same e h3⟩
  | [], _ :: _, h => h.elim
  | _ :: _, [], h => h.elim
theorem PairsAt.length {H : Hp} : ∀ {xs : List V} {rs : List (Int × Int)}, PairsAt H xs rs → xs.length = rs.length
  | [], [], _ => rfl
  | x :: xs, r :: rs, ⟨_, h3⟩ => by rw [List.length_cons, List.length_cons, PairsAt.length h3]
  | [], _ :: _, h => h.elim
  | _ :: _, [], h => h.elim
theorem PairsAt.append {H : Hp} : ∀ {xs ys : List V} {rs ss : List (Int × Int)}, PairsAt H xs rs → PairsAt H ys ss → PairsAt H (xs ++ ys) (rs ++ ss)
  | [], _, [], _, _, h => h
  | x :: xs, _, r :: rs, _, ⟨h1, h2⟩, h => ⟨h1, PairsAt.append h2 h⟩
  | [], _, _ :: _, _, h, _ => h.elim
  | _ :: _, _, [], _, h, _ => h.elim
theorem PairsAt.take {H : Hp} : ∀ {xs : List V} {rs : List (Int × Int)} (n : Nat), PairsAt H xs rs → PairsAt H (xs.take n) (rs.take n)
  | [], [], n, _ => by simp [PairsAt]
  | x :: xs, r :: rs, 0, _ => trivial
  | x :: xs, r :: rs, n + 1, ⟨h1, h2⟩ => ⟨h1, PairsAt.take n h2⟩
  | [], _ :: _, _, h => h.elim
  | _ :: _, [], _, h => h.elim
theorem PairsAt.get {H : Hp} : ∀ {xs : List V} {rs : List (Int × Int)} {i : Nat} {x : V}, PairsAt H xs rs → xs[i]? = some x → ∃ p a b, x = .ref p ∧ H p = some (.tup [.int a, .int b])
  | x :: xs, r :: rs, 0, y, ⟨⟨p, h1, h2⟩, _⟩, e => ⟨p, r.1, r.2, by rw [← h1]; exact (Option.some.inj e).symm, h2⟩
  | x :: xs, r :: rs, i + 1, y, ⟨_, h⟩, e => PairsAt.get h e
  | [], [], i, y, _, e => by simp at e
  | [], _ :: _, _, _, h, _ => h.elim
  | _ :: _, [], _, _, h, _ => h.elim
/-! ### data -/
def dInts (ns : List Int) : List PyData := ns.map PyData.int
def dPairs (rs : List (Int × Int)) : List PyData := rs.map fun r => .tuple [.int r.1, .int r.2]
theorem dp_ints {K : PySem.W.Frag} {H : Hp} : ∀ ns : List Int, DpAll K H (ns.map V.int) (dInts ns)
  | [] => .nil
  | n :: ns => .cons (.int n) (dp_ints ns)
theorem dp_pairs {K : PySem.W.Frag} {H : Hp} : ∀ {xs : List V} {rs : List (Int × Int)}, PairsAt H xs rs → DpAll K H xs (dPairs rs)
  | [], [], _ => .nil
  | x :: xs, r :: rs, ⟨⟨p, h1, h2⟩, h3⟩ => by
    subst h1
    exact .cons (.tup (SqT.of h2) (.cons (.int _) (.cons (.int _) .nil))) (dp_pairs h3)
  | [], _ :: _, h => h.elim
  | _ :: _, [], h => h.elim
theorem lay_ints : ∀ ns : List Int, PyData.canLayAll0 (dInts ns) = true
  | [] => rfl
  | n :: ns => by
    show (PyData.canLay0 (.int n) && PyData.canLayAll0 (dInts ns)) = true
    rw [lay_ints ns]
    simp only [PyData.canLay0, Bool.and_true]
theorem lay_pairs : ∀ rs : List (Int × Int), PyData.canLayAll0 (dPairs rs) = true
  | [] => rfl
  | r :: rs => by
    show (PyData.canLay0 (.tuple [.int r.1, .int r.2]) && PyData.canLayAll0 (dPairs rs)) = true
    rw [lay_pairs rs]
    simp only [PyData.canLay0, PyData.canLayAll0, Bool.and_true]
theorem depth_pairs : ∀ rs : List (Int × Int), PyData.depthAll (dPairs rs) ≤ 3
  | [] => Nat.zero_le _
  | r :: rs => by
    have h := depth_pairs rs
    show max (PyData.depth (.tuple [.int r.1, .int r.2])) (PyData.depthAll (dPairs rs)) ≤ 3
    simp only [PyData.depth, PyData.depthAll]
    omega
theorem shaped_of {d : PyData} (h1 : d.canLay0 = true) (h2 : d.depth ≤ 64) : SeqAt.shaped d = true := by
  unfold SeqAt.shaped
  rw [h1, decide_eq_true h2]
  rfl
theorem shaped_lst (ns : List Int) : SeqAt.shaped (.list (dInts ns)) = true :=
  shaped_of (by simp only [PyData.canLay0, lay_ints]) (by have := KG.depth_all ns; show PyData.depth (.list (ns.map PyData.int)) ≤ 64; simp only [PyData.depth]; omega)
theorem shaped_tup (ns : List Int) : SeqAt.shaped (.tuple (dInts ns)) = true :=
  shaped_of (by simp only [PyData.canLay0, lay_ints]) (by have := KG.depth_all ns; show PyData.depth (.tuple (ns.map PyData.int)) ≤ 64; simp only [PyData.depth]; omega)
theorem shaped_prs (rs : List (Int × Int)) : SeqAt.shaped (.list (dPairs rs)) = true :=
  shaped_of (by simp only [PyData.canLay0, lay_pairs]) (by have := depth_pairs rs; simp only [PyData.depth]; omega)
theorem eqv_same {d : PyData} (h : SeqAt.shaped d = true) : PyData.eqv d d = true := by
  refine SeqAt.eqv_refl d ?_
  unfold SeqAt.shaped at h
  rw [Bool.and_eq_true] at h
  exact h.1
/-- what repr asks of data -/
structure Nice (d : PyData) : Prop where
  show' : d.showable = true
  dict : d.hasDict = false
  depth : d.depth ≤ 10
  fits : d.shown.length ≤ sizeLine
theorem nice_lst {ns : List Int} (h : ∀ n ∈ ns, n.natAbs < 2 ^ 39) (hl : ns.length ≤ 2000) : Nice (.list (dInts ns)) :=
  ⟨by simp only [PyData.showable]; exact KG.show_all ns fun m hm => Nat.lt_trans (h m hm) (by decide), by simp only [PyData.hasDict]; exact KG.nodict_all ns,
    by have := KG.depth_all ns; show PyData.depth (.list (ns.map PyData.int)) ≤ 10; simp only [PyData.depth]; omega, KG.repr_fits h hl⟩
theorem nice_tup {ns : List Int} (h : ∀ n ∈ ns, n.natAbs < 2 ^ 39) (hl : ns.length ≤ 2000) : Nice (.tuple (dInts ns)) :=
  ⟨by simp only [PyData.showable]; exact KG.show_all ns fun m hm => Nat.lt_trans (h m hm) (by decide), by simp only [PyData.hasDict]; exact KG.nodict_all ns,
    by have := KG.depth_all ns; show PyData.depth (.tuple (ns.map PyData.int)) ≤ 10; simp only [PyData.depth]; omega, by
      refine PyData.shown_fits (B := 13) (by decide) (by decide) ?_ ?_
      · simp only [PyData.leavesShort]
        exact KG.leaves_all ns fun n hn => Nat.lt_trans (h n hn) (by decide)
      · have := KG.weight_all ns h
        show PyData.weight (.tuple (ns.map PyData.int)) ≤ _
        simp only [PyData.weight]
        omega⟩
theorem leaf_int {a : Int} (h : a.natAbs < 2 ^ 39) : PyData.leavesShort 13 (.int a) = true := by
  have := KG.leaves_all [a] fun n hn => by rw [List.mem_singleton.mp hn]; exact Nat.lt_trans h (by decide)
  simpa only [List.map_cons, List.map_nil, PyData.leavesShortAll, Bool.and_true] using this
theorem show_int {a : Int} (h : a.natAbs < 2 ^ 39) : PyData.showable (.int a) = true := by
  have := KG.show_all [a] fun n hn => by rw [List.mem_singleton.mp hn]; exact Nat.lt_trans h (by decide)
  simpa only [List.map_cons, List.map_nil, PyData.showableAll, Bool.and_true] using this
theorem weight_int {a : Int} (h : a.natAbs < 2 ^ 39) : PyData.weight (.int a) + 1 ≤ 60 := by
  have := KG.weight_all [a] fun n hn => by rw [List.mem_singleton.mp hn]; exact h
  simp only [List.map_cons, List.map_nil, PyData.weightAll, List.length_singleton] at this
  omega
theorem pairs_show : ∀ rs : List (Int × Int), (∀ r ∈ rs, r.1.natAbs < 2 ^ 39 ∧ r.2.natAbs < 2 ^ 39) → PyData.showableAll (dPairs rs) = true
  | [], _ => rfl
  | r :: rs, h => by
    have h1 := h r List.mem_cons_self
    show (PyData.showable (.tuple [.int r.1, .int r.2]) && PyData.showableAll (dPairs rs)) = true
    rw [pairs_show rs fun x hx => h x (List.mem_cons_of_mem _ hx)]
    have e1 := show_int h1.1
    have e2 := show_int h1.2
    simp only [PyData.showable, PyData.showableAll] at e1 e2 ⊢
    rw [e1, e2]
    rfl
theorem pairs_dict : ∀ rs : List (Int × Int), PyData.hasDictAll (dPairs rs) = false
  | [] => rfl
  | r :: rs => by
    show (PyData.hasDict (.tuple [.int r.1, .int r.2]) || PyData.hasDictAll (dPairs rs)) = false
    rw [pairs_dict rs]
    simp only [PyData.hasDict, PyData.hasDictAll, Bool.or_self]
theorem pairs_leaves : ∀ rs : List (Int × Int), (∀ r ∈ rs, r.1.natAbs < 2 ^ 39 ∧ r.2.natAbs < 2 ^ 39) → PyData.leavesShortAll 13 (dPairs rs) = true
  | [], _ => rfl
  | r :: rs, h => by
    have h1 := h r List.mem_cons_self
    show (PyData.leavesShort 13 (.tuple [.int r.1, .int r.2]) && PyData.leavesShortAll 13 (dPairs rs)) = true
    rw [pairs_leaves rs fun x hx => h x (List.mem_cons_of_mem _ hx)]
    have e : PyData.leavesShort 13 (.tuple [.int r.1, .int r.2]) = PyData.leavesShortAll 13 [.int r.1, .int r.2] := by simp only [PyData.leavesShort]
    have e' : PyData.leavesShortAll 13 [.int r.1, .int r.2] = (PyData.leavesShort 13 (.int r.1) && (PyData.leavesShort 13 (.int r.2) && true)) := by simp only [PyData.leavesShortAll]
    rw [e, e', leaf_int h1.1, leaf_int h1.2]
    rfl
theorem pairs_weight : ∀ rs : List (Int × Int), (∀ r ∈ rs, r.1.natAbs < 2 ^ 39 ∧ r.2.natAbs < 2 ^ 39) → PyData.weightAll (dPairs rs) ≤ 130 * rs.length
  | [], _ => Nat.le_refl _
  | r :: rs, h => by
    have h1 := h r List.mem_cons_self
    have h2 := pairs_weight rs fun x hx => h x (List.mem_cons_of_mem _ hx)
    have w1 := weight_int h1.1
    have w2 := weight_int h1.2
    have e : PyData.weightAll (dPairs (r :: rs)) = PyData.weight (.tuple [.int r.1, .int r.2]) + 1 + PyData.weightAll (dPairs rs) := by
      show PyData.weightAll (_ :: _) = _
      simp only [PyData.weightAll]
      rfl
    have e2 : PyData.weight (.tuple [.int r.1, .int r.2]) = PyData.weight (.int r.1) + 1 + (PyData.weight (.int r.2) + 1 + 0) := by simp only [PyData.weight, PyData.weightAll]
    rw [e, e2, List.length_cons]
    omega
theorem nice_prs {rs : List (Int × Int)} (h : ∀ r ∈ rs, r.1.natAbs < 2 ^ 39 ∧ r.2.natAbs < 2 ^ 39) (hl : rs.length ≤ 2000) : Nice (.list (dPairs rs)) :=
  ⟨by simp only [PyData.showable]; exact pairs_show rs h, by simp only [PyData.hasDict]; exact pairs_dict rs, by have := depth_pairs rs; simp only [PyData.depth]; omega, by
    refine PyData.shown_fits (B := 13) (by decide) (by decide) ?_ ?_
    · simp only [PyData.leavesShort]
      exact pairs_leaves rs h
    · have := pairs_weight rs h
      simp only [PyData.weight]
      omega⟩
section
variable {X : Cx}
/-- repr of data at an address, while no repr is under way -/
def rReprD (K : PySem.W.Frag) : List V → Hp → VK → Prop := fun vs H Q => ∃ (a : Addr) (d : PyData), vs = [V.ref a] ∧ Dp K H (.ref a) d ∧ Nice d ∧ Q (.str d.shown) H
theorem cr_reprD (hg : X.A.guards = some []) (hu : X.A.units + 100 < cLine) : CallR X (.builtin "repr") (rReprD X.K) := by
  intro pins s σ H vs us Q I r h
  obtain ⟨a, d, rfl, hd, nc, q⟩ := h
  rw [Vals.ref1 r]
  obtain ⟨as, rd⟩ := Dp.reads I d (.ref a) (.ref a) hd rfl
  refine repr_of_reads' rd nc.show' (PyData.noDict_hsm nc.dict) hg (by have := nc.depth; omega) (fun _ _ e => e) (fun g u tk k => ?_) nc.fits
  exact ⟨.str d.shown, H, I.kept k, ⟨u, rfl⟩, q⟩
theorem cr_reprB : CallR X (.builtin "repr") (fun vs H Q => ∃ b : Bool, vs = [V.bl b] ∧ Q (.str (if b = true then "True" else "False")) H) := by
  intro pins s σ H vs us Q I r h
  obtain ⟨b, rfl, q⟩ := h
  obtain ⟨u, rfl, ru⟩ := vals1 r
  cases ru
  exact PySem.P.repr_of_bool ⟨.str _, H, I.tok _, ⟨_, rfl⟩, q⟩
end
section
variable {K : PySem.W.Frag} {a b : Addr} {xs ys : List V}
theorem walk_tups {n : Nat} (hn : n = min xs.length ys.length) : Walk (RZ.ItzT K a b) n (fun H => SqT K H a xs ∧ SqT K H b ys) (YPair (fun i => xs[i]?) (fun i => ys[i]?)) := by
  refine ⟨fun i H hi q => ⟨xs, ys, xs[i]'(by omega), ys[i]'(by omega), q.1, q.2, List.getElem?_eq_getElem (by omega), List.getElem?_eq_getElem (by omega)⟩, fun H q => ⟨xs, ys, q.1, q.2, by omega⟩, fun i H v H' _ q y => ?_⟩
  obtain ⟨T, x, z, h1, h2, h3, h4, h5⟩ := y
  exact ⟨T, x, z, h1, h2, h3, h4 xs q.1, h5 ys q.2⟩
end
/-- two promises of one def -/
theorem both {P : Program} {w : World} {K : PySem.W.Frag} {mg : Str → Option Value} {base : Heap} {CX : CXT} {k : Nat} {f : Addr} {fd : FuncData} {ps : List Str} {sp sp' : Sp}
    (F : FnOk P w K mg base CX k f fd ps sp) (G : FnOk P w K mg base CX k f fd ps sp') : FnOk P w K mg base CX k f fd ps (fun vs H Q E => sp vs H Q E ∨ sp' vs H Q E) :=
  ⟨fun vs H Q E h => h.elim (F.len vs H Q E) (G.len vs H Q E), fun A outer s H args us vs Q E hr e0 hb r h => h.elim (F.run A outer s H args us vs Q E hr e0 hb r) (G.run A outer s H args us vs Q E hr e0 hb r)⟩
end PH

namespace KA
open PySem PySem.Spec PyProof.Rows L2
def topS (i : Nat) : Stmt := PySem.Challenge.pw_wearswings_k51_texts_of_tables.main.body.getD i (.Pass ⟨0, 0, 0, 0⟩)
end KA
namespace KD
open PySem PySem.Spec PyProof.Rows L2 KA
abbrev sFeed : Stmt := topS 17
abbrev sTake : Stmt := topS 18
abbrev sPick : Stmt := topS 19
theorem scFeed : FnScope ["script", "k", "cell", "digits", "state"] ["script", "k"] (defScope sFeed) := ⟨rfl, rfl, rfl, by decide +kernel, rfl, by decide +kernel, by decide +kernel⟩
theorem scTake : FnScope ["feed", "many", "digit"] ["feed", "many"] (defScope sTake) := ⟨rfl, rfl, rfl, by decide +kernel, rfl, by decide +kernel, by decide +kernel⟩
theorem scPick : FnScope ["feed", "some"] ["feed", "some"] (defScope sPick) := ⟨rfl, rfl, rfl, by decide +kernel, rfl, by decide +kernel, by decide +kernel⟩
/-- a feed stands at p -/
def FeedAt (H : Hp) (p : Addr) : Prop := ∃ d st : Int, 0 ≤ d ∧ 0 ≤ st ∧ st < 2305843009213693951 ∧ H p = some (.lst [.int d, .int st])
/-- all that was tracked is as it was, but what stands at f -/
def Ch (f : Addr) (H H' : Hp) : Prop := ∀ b o, b ≠ f → H b = some o → H' b = some o
theorem Ch.refl (f : Addr) (H : Hp) : Ch f H H := fun _ _ _ e => e
theorem Ch.trans {f : Addr} {H H1 H2 : Hp} (a : Ch f H H1) (b : Ch f H1 H2) : Ch f H H2 := fun c o n e => b c o n (a c o n e)
theorem Ch.of_same {f : Addr} {H H' : Hp} (s : Same H H') : Ch f H H' := fun c o _ e => s c o e
theorem Ch.put {f : Addr} {H : Hp} {o : HO} : Ch f H (upd H f o) := fun b x n e => by rw [upd_ne n]; exact e
theorem Ch.new {f p : Addr} {H : Hp} {o : HO} (h : H p = none) : Ch f H (upd H p o) := .of_same (same_new h)
theorem Ch.again {f p : Addr} {H0 H : Hp} {o : HO} (h : H0 p = none) (c : Ch f H0 H) : Ch f H0 (upd H p o) := fun b x n e => by
  rw [upd_ne (ne_of_none e h)]
  exact c b x n e
theorem Ch.free {f p : Addr} {H H' : Hp} (c : Ch f H H') (n : p ≠ f) (h : H' p = none) : H p = none := by
  cases e : H p with
  | none => rfl
  | some o =>
    rw [c p o n e] at h
    cases h
theorem Ch.seq {K : PySem.W.Frag} {f : Addr} {H H' : Hp} {a : Addr} {xs : List V} (c : Ch f H H') (n : a ≠ f) (h : SqL K H a xs) : SqL K H' a xs := by
  rcases h with (h | ⟨o, h⟩) | h
  · exact .inl (.inl (c _ _ n h))
  · exact .inl (.inr ⟨o, c _ _ n h⟩)
  · exact .inr h
/-- what stood ahead of the feed is as it was -/
theorem Ch.old {f : Addr} {H0 H H' : Hp} (c : Ch f H H') (hf : H0 f = none) (s : Same H0 H) : Same H0 H' := fun b o e => c b o (ne_of_none e hf) (s b o e)
theorem FeedAt.ne {H : Hp} {f p : Addr} (h : FeedAt H f) (n : H p = none) : p ≠ f := by
  obtain ⟨d, st, _, _, _, e⟩ := h
  exact fun z => by rw [z, e] at n; cases n
theorem FeedAt.upd {H : Hp} {f p : Addr} {o : HO} (h : FeedAt H f) (n : p ≠ f) : FeedAt (upd H p o) f := by
  obtain ⟨d, st, h1, h2, h3, e⟩ := h
  exact ⟨d, st, h1, h2, h3, by rw [upd_ne n.symm]; exact e⟩
theorem FeedAt.same {H H' : Hp} {f : Addr} (h : FeedAt H f) (s : Same H H') : FeedAt H' f := by
  obtain ⟨d, st, h1, h2, h3, e⟩ := h
  exact ⟨d, st, h1, h2, h3, s _ _ e⟩
section
variable {P : Program} {w : World} {K : PySem.W.Frag} {mg : Str → Option Value} {base : Heap}
def spFeed (K : PySem.W.Frag) : Sp := fun vs H Q _ => ∃ (a : Addr) (ns : List Int) (k : Int), vs = [.ref a, .int k] ∧ SqL K H a (ns.map V.int) ∧ 0 ≤ k ∧ k ≤ 100 ∧
  ∀ H' p, Same H H' → H p = none → FeedAt H' p → Q (.ref p) H'
theorem ok_feed {f : Addr} {fd : FuncData} {k : Nat} (F : Fun K "_law_feed" "_law_feed" sFeed f fd) (ml : mg "len" = none) (mm : mg "max" = none) (ma : mg "abs" = none) : FnOk P w K mg base CX0 (k + 1) f fd ["script", "k"] (spFeed K) := by
  refine F.ok scFeed (fun vs H Q E h => ?_) (fun cdv A outer s H vs Q E hr h => ?_)
  · obtain ⟨a, ns, z, rfl, _⟩ := h
    rfl
  · obtain ⟨a, ns, z, rfl, hS, h0, h1, q⟩ := h
    refine ⟨_, pss_cons (ps_set (i := 2) scFeed.nd rfl (.inl rfl) (pe_ifExp (pt_cmpR op_lt (pv 1) (pe_callB call_len_seq (by rfl) ml PySem.boot_len (pa_cons (pv 0) pa_nil)) (nomark _)) (pe_ix ix_list (pv 0) (pv 1) (fun _ _ => rfl)) (pe_op op_add (pe_op op_mul pe_int (pv 1)) pe_int)))
      (pss_cons (ps_set (i := 3) scFeed.nd rfl (.inl rfl) (pe_callB (call_max2 rfl) (by rfl) mm (by decide +kernel) (pa_cons pe_int (pa_cons (pe_op op_sub (pe_callB call_abs (by rfl) ma (by decide +kernel) (pa_cons (pv 2) pa_nil)) (pe_op op_pow pe_int pe_int)) pa_nil))))
      (pss_cons (ps_set (i := 4) scFeed.nd rfl (.inl rfl) (pe_op op_mod (pe_op op_add (pe_op op_add (pe_op op_mul (pv 2) pe_int) (pe_op op_mul pe_int (pv 1))) pe_int) pe_int))
      (pss_one (ps_ret (pe_lst (pa_cons (pv 3) (pa_cons (pv 4) pa_nil))))))), ?_⟩
    refine ⟨.int z, rfl, .ref a, rfl, a, ns.map V.int, rfl, .inl hS, z, _, rfl, rfl, _, rfl, ite2 (fun e => ?_) (fun e => ?_)⟩
    · have hz : z < ((ns.map V.int).length : Nat) := of_decide_eq_true e
      rw [List.length_map] at hz
      obtain ⟨j, rfl⟩ : ∃ j : Nat, z = (j : Int) := ⟨z.toNat, by omega⟩
      have hj : j < ns.length := by omega
      have gj : (ns.map V.int)[j]? = some (.int ns[j]) := by rw [List.getElem?_map, List.getElem?_eq_getElem hj]; rfl
      refine ⟨.ref a, rfl, .int j, rfl, a, _, _, _, rfl, rfl, hS, atI_nat gj, ?_⟩
      refine ⟨_, rfl, _, rfl, 10, 18, rfl, rfl, ⟨by decide, by decide, by decide⟩, _, _, rfl, rfl, 0, _, rfl, ?_⟩
      refine ⟨_, rfl, _, _, rfl, rfl, .inr ⟨by decide, by decide⟩, .int _, rfl, 7919, _, rfl, rfl, .inl ⟨by decide, by decide⟩, _, _, rfl, rfl, _, _, rfl, rfl, _, _, rfl, rfl, by show (0 : Int) < 2305843009213693951; decide, ?_⟩
      refine ⟨_, rfl, _, rfl, by show 2 ≤ sizeLine; decide, fun p np => q _ p (same_new np) np ⟨_, _, ?_, Int.emod_nonneg _ (by decide), Int.emod_lt_of_pos _ (by decide), upd_same⟩⟩
      split <;> omega
    · refine ⟨.int z, rfl, 83, z, rfl, rfl, .inl ⟨by decide, by decide⟩, _, _, rfl, rfl, ?_⟩
      refine ⟨_, rfl, _, rfl, 10, 18, rfl, rfl, ⟨by decide, by decide, by decide⟩, _, _, rfl, rfl, 0, _, rfl, ?_⟩
      refine ⟨_, rfl, _, _, rfl, rfl, .inr ⟨by decide, by decide⟩, .int _, rfl, 7919, _, rfl, rfl, .inl ⟨by decide, by decide⟩, _, _, rfl, rfl, _, _, rfl, rfl, _, _, rfl, rfl, by show (0 : Int) < 2305843009213693951; decide, ?_⟩
      refine ⟨_, rfl, _, rfl, by show 2 ≤ sizeLine; decide, fun p np => q _ p (same_new np) np ⟨_, _, ?_, Int.emod_nonneg _ (by decide), Int.emod_lt_of_pos _ (by decide), upd_same⟩⟩
      split <;> omega
def spTake : Sp := fun vs H Q _ => ∃ (f : Addr) (m : Int), vs = [.ref f, .int m] ∧ 0 < m ∧ m < 2 ^ 64 ∧ FeedAt H f ∧ ∀ H' r, Ch f H H' → FeedAt H' f → 0 ≤ r → r < m → Q (.int r) H'
theorem ok_take {f : Addr} {fd : FuncData} {k : Nat} (F : Fun K "_law_take" "_law_take" sTake f fd) : FnOk P w K mg base CX0 (k + 1) f fd ["feed", "many"] spTake := by
  refine F.ok scTake (fun vs H Q E h => ?_) (fun cdv A outer s H vs Q E hr h => ?_)
  · obtain ⟨a, m, rfl, _⟩ := h
    rfl
  · obtain ⟨f, m, rfl, m0, m1, ⟨d, st, d0, t0, t1, hf⟩, q⟩ := h
    refine ⟨_, pss_cons (ps_if (pt_cmpR op_gt (pe_ix ix_list (pv 0) pe_int (fun _ _ => rfl)) pe_int (nomark _))
        (pss_cons (ps_set (i := 2) scTake.nd rfl (.inl rfl) (pe_op op_mod (pe_ix ix_list (pv 0) pe_int (fun _ _ => rfl)) (pv 1)))
          (pss_cons (ps_asg (pe_op op_fdivW (pe_ix ix_list (pv 0) pe_int (fun _ _ => rfl)) (pv 1)) (pg_sub (pv 0) pe_int set_list)) (pss_one (ps_ret (pv 2))))) pss_nil)
      (pss_cons (ps_asg (pe_op op_mod (pe_op op_add (pe_op op_mul (pe_ix ix_list (pv 0) pe_int (fun _ _ => rfl)) pe_int) pe_int) pe_int) (pg_sub (pv 0) pe_int set_list))
      (pss_one (ps_ret (pe_op op_mod (pe_op op_fdiv (pe_ix ix_list (pv 0) pe_int (fun _ _ => rfl)) pe_int) (pv 1))))), ?_⟩
    have a0 : atI [V.int d, V.int st] 0 = some (.int d) := rfl
    have a1 : atI [V.int d, V.int st] 1 = some (.int st) := rfl
    refine ⟨.ref f, rfl, f, _, 0, .int d, rfl, rfl, SqL.of hf, a0, d, 0, rfl, rfl, _, rfl, ite2 (fun e => ?_) (fun e => ?_)⟩
    · have hd : d > 0 := of_decide_eq_true e
      refine ⟨.ref f, rfl, f, _, 0, .int d, rfl, rfl, SqL.of hf, a0, .int m, rfl, d, m, rfl, rfl, m0, ?_⟩
      refine ⟨.ref f, rfl, f, _, 0, .int d, rfl, rfl, SqL.of hf, a0, .int m, rfl, d, m, rfl, rfl, wide_div (b := 64) m0 (by omega) (by decide) (by decide), ?_⟩
      refine ⟨.ref f, rfl, f, _, 0, 0, rfl, rfl, hf, rfl, .int (d % m), rfl, ?_⟩
      refine q _ _ Ch.put ⟨d / m, st, Int.ediv_nonneg d0 (by omega), t0, t1, upd_same⟩ (Int.emod_nonneg _ (by omega)) (Int.emod_lt_of_pos _ m0)
    · refine ⟨.ref f, rfl, f, _, 1, .int st, rfl, rfl, SqL.of hf, a1, st, 6364136223846793005, rfl, rfl, .inr ⟨by decide, by decide⟩, _, _, rfl, rfl, _, _, rfl, rfl, by show (0 : Int) < 2305843009213693951; decide, ?_⟩
      refine ⟨.ref f, rfl, f, _, 1, 1, rfl, rfl, hf, rfl, ?_⟩
      refine ⟨.ref f, rfl, f, _, 1, _, rfl, rfl, SqL.of upd_same, rfl, _, 65536, rfl, rfl, ⟨by decide, by decide⟩, .int m, rfl, _, m, rfl, rfl, m0, ?_⟩
      exact q _ _ Ch.put ⟨d, _, d0, Int.emod_nonneg _ (by decide), Int.emod_lt_of_pos _ (by decide), upd_same⟩ (Int.emod_nonneg _ (by omega)) (Int.emod_lt_of_pos _ m0)
def spPick (K : PySem.W.Frag) : Sp := fun vs H Q _ => ∃ (f c : Addr) (xs : List V), vs = [.ref f, .ref c] ∧ c ≠ f ∧ SqL K H c xs ∧ 0 < xs.length ∧ xs.length ≤ 1000 ∧ FeedAt H f ∧
  ∀ H' (j : Nat) v, xs[j]? = some v → Ch f H H' → FeedAt H' f → Q v H'
theorem ok_pick {f fT : Addr} {fd fdT : FuncData} {k : Nat} (F : Fun K "_law_pick" "_law_pick" sPick f fd) (FT : Fun K "_law_take" "_law_take" sTake fT fdT) (gT : mg "_law_take" = some (.ref fT)) (bT : Binds K fdT ["feed", "many"] []) (ml : mg "len" = none) :
    FnOk P w K mg base CX0 (k + 2) f fd ["feed", "some"] (spPick K) := by
  have GT : FnOk P w K mg base CX0 (k + 1) fT fdT ["feed", "many"] spTake := ok_take FT
  refine F.ok scPick (fun vs H Q E h => ?_) (fun cdv A outer s H vs Q E hr h => ?_)
  · obtain ⟨a, m, xs, rfl, _⟩ := h
    rfl
  · obtain ⟨f, c, xs, rfl, ncf, hS, l0, l1, hf, q⟩ := h
    refine ⟨_, pss_one (ps_ret (pe_ix ix_list (pv 1) (pe_call GT hr (by rfl) gT FT.kp bT .nil pass0 (pa_cons (pv 0) (pa_cons (pe_callB call_len_seq (by rfl) ml PySem.boot_len (pa_cons (pv 1) pa_nil)) pa_nil))) (fun _ _ => rfl))), ?_⟩
    refine ⟨.ref c, rfl, .ref f, rfl, .ref c, rfl, c, xs, rfl, .inl hS, f, _, rfl, by omega, by omega, hf, fun H' r ch fe r0 r1 => ?_⟩
    obtain ⟨j, rfl⟩ : ∃ j : Nat, r = (j : Int) := ⟨r.toNat, by omega⟩
    have hj : j < xs.length := by omega
    exact ⟨c, xs, _, xs[j], rfl, rfl, ch.seq ncf hS, atI_nat (List.getElem?_eq_getElem hj), q H' j _ (List.getElem?_eq_getElem hj) ch fe⟩
end
end KD

/-! places, sorted pairs, the stack's turns -/
namespace RN
open PM RM
def takenAt (ps : List Int) (i : Nat) : Bool := match ps.drop i with
  | a :: b :: c :: d :: _ => decide (Taken a b c d)
  | _ => false
theorem taken_here {ps : List Int} {i : Nat} (h : takenAt ps i = true) : ∃ pre a b c d post, ps = pre ++ a :: b :: c :: d :: post ∧ pre.length = i ∧ Taken a b c d := by
  unfold takenAt at h
  split at h
  · rename_i a b c d post e
    refine ⟨ps.take i, a, b, c, d, post, by rw [← e, List.take_append_drop], ?_, of_decide_eq_true h⟩
    have : (ps.drop i).length = post.length + 4 := by rw [e]; simp
    rw [List.length_drop] at this
    rw [List.length_take]
    omega
  · cases h
theorem taken_get {ps : List Int} {i : Nat} {a b c d : Int} (h0 : ps[i]? = some a) (h1 : ps[i + 1]? = some b) (h2 : ps[i + 2]? = some c) (h3 : ps[i + 3]? = some d) : takenAt ps i = decide (Taken a b c d) := by
  have e : ∀ {j : Nat} {r : Int}, ps[j]? = some r → ps.drop j = r :: ps.drop (j + 1) := fun {j r} h => by
    obtain ⟨k1, k2⟩ := List.getElem?_eq_some_iff.mp h
    rw [List.drop_eq_getElem_cons k1, k2]
  unfold takenAt
  rw [e h0, e h1, e h2, e h3]
theorem taken_lt {ps : List Int} {i : Nat} (h : takenAt ps i = true) : i < ps.length - 3 := by
  obtain ⟨pre, a, b, c, d, post, e, hl, _⟩ := taken_here h
  rw [e]
  simp only [List.length_append, List.length_cons]
  omega
theorem step_at {ps q : List Int} {cy : Int × Int} (h : Step ps cy q) : ∃ i, takenAt ps i = true := by
  induction h with
  | here t => exact ⟨0, decide_eq_true t⟩
  | there _ ih =>
    obtain ⟨i, e⟩ := ih
    exact ⟨i + 1, e⟩
def plc (ps : List Int) : List Int := ((List.range (ps.length - 3)).filter (takenAt ps)).map fun (i : Nat) => (i : Int) + 1
theorem plc_mem {ps : List Int} {x : Int} (h : x ∈ plc ps) : ∃ i : Nat, x = (i : Int) + 1 ∧ takenAt ps i = true := by
  obtain ⟨i, hi, e⟩ := List.mem_map.mp h
  exact ⟨i, e.symm, (List.mem_filter.mp hi).2⟩
theorem nf_of_plc {ps : List Int} (h : plc ps = []) : NF ps := by
  intro c q s
  obtain ⟨i, e⟩ := step_at s
  have : (i : Int) + 1 ∈ plc ps := List.mem_map.mpr ⟨i, List.mem_filter.mpr ⟨List.mem_range.mpr (taken_lt e), e⟩, rfl⟩
  rw [h] at this
  cases this
theorem plc_of_nf {ps : List Int} (h : NF ps) : plc ps = [] := by
  cases e : plc ps with
  | nil => rfl
  | cons x l =>
    have hx : x ∈ plc ps := by rw [e]; exact List.mem_cons_self
    obtain ⟨i, _, t⟩ := plc_mem hx
    obtain ⟨pre, a, b, c, d, post, e2, _, tk⟩ := taken_here t
    rw [e2] at h
    exact absurd ((Step.here tk).prefix pre) (h _ _)
theorem Run.suffix {p q : List Int} {cs : List (Int × Int)} (h : Run p cs q) (l : List Int) : Run (p ++ l) cs (q ++ l) := by
  induction h with
  | nil p => exact .nil _
  | cons s _ ih => exact .cons (s.suffix l) ih
theorem Run.ends {p r : List Int} {cs : List (Int × Int)} (h : Run p cs r) : (cs = [] ∧ p = r) ∨ 2 ≤ r.length := by
  induction h with
  | nil p => exact .inl ⟨rfl, rfl⟩
  | @cons p q r c cs s h ih =>
    refine .inr ?_
    rcases ih with ⟨_, e⟩ | e
    · subst e
      have : ∀ {p q : List Int} {c : Int × Int}, Step p c q → 2 ≤ q.length := by
        intro p q c s
        induction s with
        | here _ => simp only [List.length_cons]; omega
        | there _ ih => simp only [List.length_cons]; omega
      exact this s
    · exact e
theorem tq_zig : ∀ (l : List Int) (b a : Int), ZZ (b :: a :: l) → tq b a l = a :: l
  | [], _, _, _ => rfl
  | r :: l, b, a, z => by
    have h1 := z.1
    simp only [tq]
    rw [if_neg (by omega), if_neg (by omega), tq_zig l a r z.2]
theorem zz_tp {ps : List Int} (z : ZZ ps) : tp ps = ps := by
  match ps, z with
  | [], _ => rfl
  | [x], _ => rfl
  | x :: y :: l, z =>
    show ts x (y :: l) = _
    simp only [ts]
    rw [if_neg (zz_cons z), tq_zig l x y z]
/-- pairs in their order -/
abbrev Le (r s : Int × Int) : Prop := r.1 < s.1 ∨ (r.1 = s.1 ∧ r.2 ≤ s.2)
theorem le_anti {r s : Int × Int} (h1 : Le r s) (h2 : Le s r) : r = s := by
  obtain ⟨a, b⟩ := r
  obtain ⟨c, d⟩ := s
  have e1 : a = c := by simp only [Le] at h1 h2; omega
  have e2 : b = d := by simp only [Le] at h1 h2; omega
  rw [e1, e2]
theorem sorted_same : ∀ {l m : List (Int × Int)}, l.Perm m → l.Pairwise Le → m.Pairwise Le → l = m
  | [], m, h, _, _ => (List.Perm.nil_eq h)
  | x :: l, m, h, h1, h2 => by
    cases m with
    | nil => exact absurd h.length_eq (by simp)
    | cons y m =>
      have hx := List.pairwise_cons.mp h1
      have hy := List.pairwise_cons.mp h2
      have e : x = y := by
        have m1 : x ∈ y :: m := h.mem_iff.mp List.mem_cons_self
        have m2 : y ∈ x :: l := h.mem_iff.mpr List.mem_cons_self
        rcases List.mem_cons.mp m1 with e | e
        · exact e
        · rcases List.mem_cons.mp m2 with e' | e'
          · exact e'.symm
          · exact le_anti (hx.1 y e') (hy.1 x e)
      subst e
      rw [sorted_same ((List.perm_cons x).mp h) hx.2 hy.2]
end RN

/-! changes of a load, as mathematics -/
namespace KM
/-- how often a letter differs from the one before, the first of all being a -/
def cf : Bool → List Bool → Nat
  | _, [] => 0
  | a, b :: r => (if a = b then 0 else 1) + cf b r
def cnt : List Bool → Nat
  | [] => 0
  | a :: r => cf a r
def cfO : Option Bool → List Bool → Nat
  | none, l => cnt l
  | some a, l => cf a l
/-- the letter of a reading: true for L -/
def lett (lo hi : Int) (r : Int) : Option Bool := if r ≤ lo then some true else if hi ≤ r then some false else none
def lets (lo hi : Int) (ns : List Int) : List Bool := ns.filterMap (lett lo hi)
def chg (ns : List Int) (lo hi : Int) : Nat := cnt (lets lo hi ns)
theorem cf_tri (a b : Bool) : ∀ l : List Bool, cf a l ≤ (if a = b then 0 else 1) + cf b l
  | [] => Nat.zero_le _
  | c :: r => by
    simp only [cf]
    cases a <;> cases b <;> cases c <;> simp <;> omega
theorem cf_mono : ∀ {l m : List Bool}, l.Sublist m → ∀ a, cf a l ≤ cf a m := by
  intro l m h
  induction h with
  | slnil => intro a; exact Nat.le_refl _
  | @cons l m b h ih =>
    intro a
    have h1 := cf_tri a b l
    have h2 := ih b
    simp only [cf]
    omega
  | @cons_cons l m b h ih =>
    intro a
    have h2 := ih b
    simp only [cf]
    omega
theorem cnt_mono : ∀ {l m : List Bool}, l.Sublist m → cnt l ≤ cnt m := by
  intro l m h
  induction h with
  | slnil => exact Nat.le_refl _
  | @cons l m b h ih =>
    cases m with
    | nil =>
      cases h
      exact Nat.le_refl _
    | cons d r =>
      show cnt l ≤ (if b = d then 0 else 1) + cf d r
      have : cnt (d :: r) = cf d r := rfl
      omega
  | @cons_cons l m b h ih => exact cf_mono h b
theorem lets_sub {lo hi lo2 hi2 : Int} (h1 : lo ≤ lo2) (h2 : hi2 ≤ hi) (h3 : lo2 < hi2) : ∀ ns : List Int, (lets lo hi ns).Sublist (lets lo2 hi2 ns)
  | [] => .slnil
  | r :: t => by
    have ih := lets_sub h1 h2 h3 t
    have key : lett lo hi r = none ∨ lett lo hi r = lett lo2 hi2 r := by
      unfold lett
      by_cases a : r ≤ lo
      · right
        rw [if_pos a, if_pos (by omega)]
      · rw [if_neg a]
        by_cases b : hi ≤ r
        · right
          rw [if_pos b, if_neg (by omega), if_pos (by omega)]
        · left
          rw [if_neg b]
    show ((r :: t).filterMap (lett lo hi)).Sublist ((r :: t).filterMap (lett lo2 hi2))
    rw [List.filterMap_cons, List.filterMap_cons]
    rcases key with e | e
    · rw [e]
      dsimp only
      cases lett lo2 hi2 r with
      | none => exact ih
      | some b => exact .cons _ ih
    · rw [← e]
      cases lett lo hi r with
      | none => exact ih
      | some b => exact .cons_cons _ ih
theorem chg_range {lo hi lo2 hi2 : Int} (h1 : lo ≤ lo2) (h2 : hi2 ≤ hi) (h3 : lo2 < hi2) (ns : List Int) : chg ns lo hi ≤ chg ns lo2 hi2 := cnt_mono (lets_sub h1 h2 h3 ns)
theorem chg_sub {l m : List Int} (h : l.Sublist m) (lo hi : Int) : chg l lo hi ≤ chg m lo hi := cnt_mono (h.filterMap _)
theorem chg_put (ns : List Int) (k : Nat) (v lo hi : Int) : chg ns lo hi ≤ chg (ns.take k ++ [v] ++ ns.drop k) lo hi := by
  refine chg_sub ?_ lo hi
  have e : ns = ns.take k ++ ns.drop k := (List.take_append_drop k ns).symm
  have h1 : (ns.take k).Sublist (ns.take k ++ [v]) := List.sublist_append_left _ _
  have h2 := h1.append (List.Sublist.refl (ns.drop k))
  rw [List.take_append_drop] at h2
  exact h2
theorem lets_drop {lo hi : Int} {ns : List Int} {i : Nat} {r : Int} (h : ns[i]? = some r) : lets lo hi (ns.drop i) = (match lett lo hi r with | none => lets lo hi (ns.drop (i + 1)) | some b => b :: lets lo hi (ns.drop (i + 1))) := by
  obtain ⟨h1, h2⟩ := List.getElem?_eq_some_iff.mp h
  rw [List.drop_eq_getElem_cons h1, h2]
  unfold lets
  rw [List.filterMap_cons]
  cases lett lo hi r <;> rfl
theorem lets_take {lo hi : Int} {ns : List Int} {i : Nat} {r : Int} (h : ns[i]? = some r) : lets lo hi (ns.take (i + 1)) = (match lett lo hi r with | none => lets lo hi (ns.take i) | some b => lets lo hi (ns.take i) ++ [b]) := by
  rw [List.take_add_one, h]
  unfold lets
  rw [List.filterMap_append]
  show _ ++ List.filterMap _ [r] = _
  rw [List.filterMap_cons]
  cases lett lo hi r with
  | none => simp
  | some b => rfl
theorem lets_len (lo hi : Int) (ns : List Int) : (lets lo hi ns).length ≤ ns.length := List.length_filterMap_le _ _
/-- the number of turns of a zip with itself, one on, whose two differ -/
theorem cnt_drop {l : List Bool} {i : Nat} {a b : Bool} (h1 : l[i]? = some a) (h2 : l[i + 1]? = some b) : cnt (l.drop i) = (if a = b then 0 else 1) + cnt (l.drop (i + 1)) := by
  obtain ⟨k1, e1⟩ := List.getElem?_eq_some_iff.mp h1
  obtain ⟨k2, e2⟩ := List.getElem?_eq_some_iff.mp h2
  rw [List.drop_eq_getElem_cons k1, e1, List.drop_eq_getElem_cons k2, e2]
  rfl
theorem cnt_end {l : List Bool} {i : Nat} (h : l.length ≤ i + 1) : cnt (l.drop i) = 0 := by
  have : (l.drop i).length ≤ 1 := by rw [List.length_drop]; omega
  match l.drop i, this with
  | [], _ => rfl
  | [_], _ => rfl
end KM

/-! changes decide the half-cycles, as mathematics -/
namespace RC
open KM PM RM RN
/-- a range holds another one -/
def hl (lo hi : Int) (r : Int × Int) : Bool := decide (r.1 ≤ lo) && decide (hi ≤ r.2)
def nh (lo hi : Int) (rs : List (Int × Int)) : Nat := rs.countP (hl lo hi)
def b1 (b : Bool) : Nat := if b = true then 1 else 0
theorem nh_cons (lo hi : Int) (r : Int × Int) (rs : List (Int × Int)) : nh lo hi (r :: rs) = b1 (hl lo hi r) + nh lo hi rs := by
  unfold nh b1
  rw [List.countP_cons]
  omega
theorem nh_app (lo hi : Int) (rs ss : List (Int × Int)) : nh lo hi (rs ++ ss) = nh lo hi rs + nh lo hi ss := List.countP_append
theorem nh_perm {lo hi : Int} {rs ss : List (Int × Int)} (h : rs.Perm ss) : nh lo hi rs = nh lo hi ss := h.countP_eq _
/-- a letter is read, some before -/
def cl (lo hi : Int) (o : Option Bool) (ns : List Int) : Nat := cfO o (lets lo hi ns)
def d2 (o : Option Bool) (b : Bool) : Nat := match o with
  | none => 0
  | some a => if a = b then 0 else 1
theorem cl_nil (lo hi : Int) (o : Option Bool) : cl lo hi o [] = 0 := by cases o <;> rfl
theorem cl_cons (lo hi : Int) (o : Option Bool) (x : Int) (ns : List Int) : cl lo hi o (x :: ns) = match lett lo hi x with
    | none => cl lo hi o ns
    | some b => d2 o b + cl lo hi (some b) ns := by
  unfold cl lets
  rw [List.filterMap_cons]
  cases lett lo hi x with
  | none => rfl
  | some b =>
    cases o with
    | none => show cf b _ = 0 + cf b _; omega
    | some a => rfl
theorem lett_lo {lo hi x : Int} (h : x ≤ lo) : lett lo hi x = some true := if_pos h
theorem lett_hi {lo hi x : Int} (h0 : lo < hi) (h : hi ≤ x) : lett lo hi x = some false := by unfold lett; rw [if_neg (by omega), if_pos h]
theorem lett_no {lo hi x : Int} (h1 : lo < x) (h2 : x < hi) : lett lo hi x = none := by unfold lett; rw [if_neg (by omega), if_neg (by omega)]
theorem lett3 (lo hi x : Int) (h0 : lo < hi) : (x ≤ lo ∧ lett lo hi x = some true) ∨ (hi ≤ x ∧ lett lo hi x = some false) ∨ (lo < x ∧ x < hi ∧ lett lo hi x = none) := by
  by_cases a : x ≤ lo
  · exact .inl ⟨a, lett_lo a⟩
  · by_cases b : hi ≤ x
    · exact .inr (.inl ⟨b, lett_hi h0 b⟩)
    · exact .inr (.inr ⟨by omega, by omega, lett_no (by omega) (by omega)⟩)
theorem hl_iff {lo hi : Int} {a b : Int} : hl lo hi (a, b) = decide (a ≤ lo ∧ hi ≤ b) := by
  unfold hl
  by_cases h1 : a ≤ lo <;> by_cases h2 : hi ≤ b <;> simp [h1, h2]
theorem four_up {lo hi a b c d : Int} (h0 : lo < hi) (post : List Int) (o : Option Bool) (h1 : a ≤ c) (h2 : c < b) (h3 : b ≤ d) : cl lo hi o (a :: b :: c :: d :: post) = cl lo hi o (a :: d :: post) + 2 * b1 (hl lo hi (c, b)) := by
  rw [hl_iff]
  simp only [cl_cons]
  rcases lett3 lo hi a h0 with ⟨x1, e1⟩ | ⟨x1, e1⟩ | ⟨x1, y1, e1⟩ <;> rcases lett3 lo hi b h0 with ⟨x2, e2⟩ | ⟨x2, e2⟩ | ⟨x2, y2, e2⟩ <;> rcases lett3 lo hi c h0 with ⟨x3, e3⟩ | ⟨x3, e3⟩ | ⟨x3, y3, e3⟩ <;> rcases lett3 lo hi d h0 with ⟨x4, e4⟩ | ⟨x4, e4⟩ | ⟨x4, y4, e4⟩ <;> first
    | (exfalso; omega)
    | (rw [decide_eq_true (by omega), e1, e2, e3, e4]; simp only [d2, b1]; cases o with
        | none => simp <;> omega
        | some p => cases p <;> simp <;> omega)
    | (rw [decide_eq_false (by omega), e1, e2, e3, e4]; simp only [d2, b1]; cases o with
        | none => simp
        | some p => cases p <;> simp)
theorem four_down {lo hi a b c d : Int} (h0 : lo < hi) (post : List Int) (o : Option Bool) (h1 : c ≤ a) (h2 : b < c) (h3 : d ≤ b) : cl lo hi o (a :: b :: c :: d :: post) = cl lo hi o (a :: d :: post) + 2 * b1 (hl lo hi (b, c)) := by
  rw [hl_iff]
  simp only [cl_cons]
  rcases lett3 lo hi a h0 with ⟨x1, e1⟩ | ⟨x1, e1⟩ | ⟨x1, y1, e1⟩ <;> rcases lett3 lo hi b h0 with ⟨x2, e2⟩ | ⟨x2, e2⟩ | ⟨x2, y2, e2⟩ <;> rcases lett3 lo hi c h0 with ⟨x3, e3⟩ | ⟨x3, e3⟩ | ⟨x3, y3, e3⟩ <;> rcases lett3 lo hi d h0 with ⟨x4, e4⟩ | ⟨x4, e4⟩ | ⟨x4, y4, e4⟩ <;> first
    | (exfalso; omega)
    | (rw [decide_eq_true (by omega), e1, e2, e3, e4]; simp only [d2, b1]; cases o with
        | none => simp <;> omega
        | some p => cases p <;> simp <;> omega)
    | (rw [decide_eq_false (by omega), e1, e2, e3, e4]; simp only [d2, b1]; cases o with
        | none => simp
        | some p => cases p <;> simp)
theorem cl_step {lo hi : Int} (h0 : lo < hi) {p q : List Int} {c : Int × Int} (h : Step p c q) : ZZ p → ∀ o, cl lo hi o p = cl lo hi o q + 2 * b1 (hl lo hi c) := by
  induction h with
  | @here a b c d post t =>
    intro z o
    rcases (taken_iff z.four).mp t with ⟨x1, x2, x3, x4, x5⟩ | ⟨x1, x2, x3, x4, x5⟩
    · rw [rg_down x2]; exact four_up h0 post o x4 x2 x5
    · rw [rg_up x2]; exact four_down h0 post o x4 x2 x5
  | @there x p q cy s ih =>
    intro z o
    rw [cl_cons, cl_cons]
    cases lett lo hi x with
    | none => exact ih z.tail o
    | some b =>
      have := ih z.tail (some b)
      show d2 o b + cl lo hi (some b) p = d2 o b + cl lo hi (some b) q + _
      omega
theorem cl_run {lo hi : Int} (h0 : lo < hi) {p q : List Int} {cs : List (Int × Int)} (h : Run p cs q) : ZZ p → ∀ o, cl lo hi o p = cl lo hi o q + 2 * nh lo hi cs := by
  induction h with
  | nil p => intro _ o; rfl
  | cons s _ ih =>
    intro z o
    rw [cl_step h0 s z o, ih (ZZ.step s z) o, nh_cons]
    omega
/-! the load and its turning points -/
theorem cl_same {lo hi : Int} (o : Option Bool) (a : Int) (l : List Int) : cl lo hi o (a :: a :: l) = cl lo hi o (a :: l) := by
  simp only [cl_cons]
  cases lett lo hi a with
  | none => rfl
  | some b => simp [d2]
theorem cl_btw {lo hi : Int} (h0 : lo < hi) (o : Option Bool) {b a r : Int} (l : List Int) (h : Btw a b r) : cl lo hi o (b :: a :: r :: l) = cl lo hi o (b :: r :: l) := by
  simp only [cl_cons]
  rcases lett3 lo hi a h0 with ⟨x1, e1⟩ | ⟨x1, e1⟩ | ⟨x1, y1, e1⟩ <;> rcases lett3 lo hi b h0 with ⟨x2, e2⟩ | ⟨x2, e2⟩ | ⟨x2, y2, e2⟩ <;> rcases lett3 lo hi r h0 with ⟨x3, e3⟩ | ⟨x3, e3⟩ | ⟨x3, y3, e3⟩ <;> first
    | (exfalso; omega)
    | (rw [e1, e2, e3]; done)
    | (rw [e1, e2, e3]; cases o with
        | none => simp [d2]
        | some p => cases p <;> simp [d2])
theorem cl_tq {lo hi : Int} (h0 : lo < hi) : ∀ (l : List Int) (o : Option Bool) (b a : Int), cl lo hi o (b :: tq b a l) = cl lo hi o (b :: a :: l)
  | [], _, _, _ => rfl
  | r :: l, o, b, a => by
    simp only [tq]
    by_cases e : a = r
    · rw [if_pos e, cl_tq h0 l o b a, ← e, cl_cons lo hi o b (a :: a :: l), cl_cons lo hi o b (a :: l)]
      cases lett lo hi b with
      | none => exact (cl_same _ _ _).symm
      | some x => exact congrArg _ (cl_same _ _ _).symm
    · rw [if_neg e]
      by_cases bt : Btw a b r
      · rw [if_pos bt, cl_tq h0 l o b r, cl_btw h0 o l bt]
      · rw [if_neg bt, cl_cons lo hi o b (a :: tq a r l), cl_cons lo hi o b (a :: r :: l)]
        cases lett lo hi b with
        | none => exact cl_tq h0 l o a r
        | some x => exact congrArg (d2 o x + ·) (cl_tq h0 l (some x) a r)
theorem cl_ts {lo hi : Int} (h0 : lo < hi) : ∀ (l : List Int) (o : Option Bool) (a : Int), cl lo hi o (ts a l) = cl lo hi o (a :: l)
  | [], _, _ => rfl
  | r :: l, o, a => by
    simp only [ts]
    by_cases e : a = r
    · rw [if_pos e, cl_ts h0 l o a, ← e, cl_same]
    · rw [if_neg e, cl_tq h0 l o a r]
theorem cl_tp {lo hi : Int} (h0 : lo < hi) (ns : List Int) : cl lo hi none (tp ns) = chg ns lo hi := by
  cases ns with
  | nil => rfl
  | cons a l => exact cl_ts h0 l none a
/-! the rest: swings that grow and then shrink -/
def In (u v : Int) (ps : List Int) : Prop := ∀ x ∈ ps, u ≤ x ∧ x ≤ v
/-- each swing within the one before -/
def Con : List Int → Prop
  | x :: y :: z :: r => ((y < x ∧ y < z ∧ z ≤ x) ∨ (x < y ∧ z < y ∧ x ≤ z)) ∧ Con (y :: z :: r)
  | _ => True
theorem Con.inside : ∀ {r : List Int} {x y : Int}, Con (x :: y :: r) → x ≠ y → In (if x < y then x else y) (if x < y then y else x) (x :: y :: r)
  | [], x, y, _, h => by
    intro w hw
    rcases List.mem_cons.mp hw with e | hw
    · subst e; split <;> omega
    · rcases List.mem_cons.mp hw with e | hw
      · subst e; split <;> omega
      · exact absurd hw (List.not_mem_nil)
  | z :: r, x, y, c, h => by
    have ih := Con.inside c.2 (by have := c.1; omega)
    intro w hw
    have c1 := c.1
    rcases List.mem_cons.mp hw with e | hw
    · subst e; split <;> omega
    · have := ih w hw
      by_cases e1 : y < z
      · rw [if_pos e1, if_pos e1] at this
        rw [if_neg (by omega), if_neg (by omega)]
        omega
      · rw [if_neg e1, if_neg e1] at this
        rw [if_pos (by omega), if_pos (by omega)]
        omega
theorem nf_con : ∀ {r : List Int} {x y z : Int}, ZZ (x :: y :: z :: r) → NF (x :: y :: z :: r) → ((y < x ∧ z ≤ x) ∨ (x < y ∧ x ≤ z)) → Con (x :: y :: z :: r)
  | [], x, y, z, zz, _, h => ⟨by have := zz.1; omega, trivial⟩
  | w :: r, x, y, z, zz, n, h => by
    have z1 := zz.1
    have z2 := zz.2.1
    refine ⟨by omega, nf_con zz.2 (fun c q s => n _ _ (.there s)) ?_⟩
    have nt : ¬ Taken x y z w := fun t => n _ _ (.here t)
    rw [taken_iff zz.four] at nt
    omega
theorem one_letter {lo hi : Int} {b : Bool} : ∀ (l : List Int) (o : Option Bool), (o = none ∨ o = some b) → (∀ x ∈ l, lett lo hi x = none ∨ lett lo hi x = some b) → cl lo hi o l = 0
  | [], o, _, _ => cl_nil lo hi o
  | x :: l, o, h1, h2 => by
    have ih := fun o h => one_letter l o h (fun x hx => h2 x (List.mem_cons_of_mem _ hx))
    rw [cl_cons]
    rcases h2 x List.mem_cons_self with e | e
    · rw [e]; exact ih o h1
    · rw [e]
      show d2 o b + cl lo hi (some b) l = 0
      rw [ih _ (.inr rfl)]
      rcases h1 with e | e
      · rw [e]; rfl
      · rw [e]; simp [d2]
theorem con_one {lo hi x y : Int} (h0 : lo < hi) {r : List Int} (h : In (if x < y then x else y) (if x < y then y else x) (x :: y :: r)) (ne : x ≠ y) : cl lo hi none (x :: y :: r) = b1 (hl lo hi (rg x y)) + cl lo hi none (y :: r) := by
  have out : ∀ u v, u < v → In u v (x :: y :: r) → hl lo hi (u, v) = false → cl lo hi none (x :: y :: r) = 0 ∧ cl lo hi none (y :: r) = 0 := by
    intro u v huv hin hn
    rw [hl_iff] at hn
    have hn := of_decide_eq_false hn
    by_cases a : u ≤ lo
    · have hb : v < hi := by omega
      have key : ∀ w ∈ x :: y :: r, lett lo hi w = none ∨ lett lo hi w = some true := fun w hw => by
        have := hin w hw
        rcases lett3 lo hi w h0 with ⟨_, e⟩ | ⟨z, e⟩ | ⟨_, _, e⟩
        · exact .inr e
        · omega
        · exact .inl e
      exact ⟨one_letter _ _ (.inl rfl) key, one_letter _ _ (.inl rfl) fun w hw => key w (List.mem_cons_of_mem _ hw)⟩
    · have key : ∀ w ∈ x :: y :: r, lett lo hi w = none ∨ lett lo hi w = some false := fun w hw => by
        have := hin w hw
        rcases lett3 lo hi w h0 with ⟨z, e⟩ | ⟨z, e⟩ | ⟨_, _, e⟩
        · omega
        · exact .inr e
        · exact .inl e
      exact ⟨one_letter _ _ (.inl rfl) key, one_letter _ _ (.inl rfl) fun w hw => key w (List.mem_cons_of_mem _ hw)⟩
  rcases (show x < y ∨ y < x by omega) with h1 | h1
  · rw [if_pos h1, if_pos h1] at h
    rw [rg_up h1]
    cases e : hl lo hi (x, y) with
    | false => obtain ⟨e1, e2⟩ := out x y h1 h e; rw [e1, e2]; rfl
    | true =>
      rw [hl_iff] at e
      have e := of_decide_eq_true e
      rw [cl_cons lo hi none x, cl_cons lo hi none y, lett_lo e.1, lett_hi h0 e.2]
      show d2 none true + cl lo hi (some true) (y :: r) = b1 true + (d2 none false + cl lo hi (some false) r)
      rw [cl_cons, lett_hi h0 e.2]
      simp [d2, b1]
  · rw [if_neg (by omega), if_neg (by omega)] at h
    rw [rg_down h1]
    cases e : hl lo hi (y, x) with
    | false => obtain ⟨e1, e2⟩ := out y x h1 h e; rw [e1, e2]; rfl
    | true =>
      rw [hl_iff] at e
      have e := of_decide_eq_true e
      rw [cl_cons lo hi none x, cl_cons lo hi none y, lett_lo e.1, lett_hi h0 e.2]
      show d2 none false + cl lo hi (some false) (y :: r) = b1 true + (d2 none true + cl lo hi (some true) r)
      rw [cl_cons, lett_lo e.1]
      simp [d2, b1]
theorem wide_one {lo hi x y z : Int} (h0 : lo < hi) {r : List Int} (h : (y < x ∧ x < z) ∨ (x < y ∧ z < x)) : cl lo hi none (x :: y :: z :: r) = b1 (hl lo hi (rg x y)) + cl lo hi none (y :: z :: r) := by
  rcases h with ⟨h1, h2⟩ | ⟨h1, h2⟩
  · rw [rg_down h1, hl_iff]
    simp only [cl_cons]
    rcases lett3 lo hi x h0 with ⟨x1, e1⟩ | ⟨x1, e1⟩ | ⟨x1, y1, e1⟩ <;> rcases lett3 lo hi y h0 with ⟨x2, e2⟩ | ⟨x2, e2⟩ | ⟨x2, y2, e2⟩ <;> rcases lett3 lo hi z h0 with ⟨x3, e3⟩ | ⟨x3, e3⟩ | ⟨x3, y3, e3⟩ <;> first
      | (exfalso; omega)
      | (rw [decide_eq_true (by omega), e1, e2, e3]; simp [d2, b1]; done)
      | (rw [decide_eq_false (by omega), e1, e2, e3]; simp [d2, b1]; done)
  · rw [rg_up h1, hl_iff]
    simp only [cl_cons]
    rcases lett3 lo hi x h0 with ⟨x1, e1⟩ | ⟨x1, e1⟩ | ⟨x1, y1, e1⟩ <;> rcases lett3 lo hi y h0 with ⟨x2, e2⟩ | ⟨x2, e2⟩ | ⟨x2, y2, e2⟩ <;> rcases lett3 lo hi z h0 with ⟨x3, e3⟩ | ⟨x3, e3⟩ | ⟨x3, y3, e3⟩ <;> first
      | (exfalso; omega)
      | (rw [decide_eq_true (by omega), e1, e2, e3]; simp [d2, b1]; done)
      | (rw [decide_eq_false (by omega), e1, e2, e3]; simp [d2, b1]; done)
theorem nf_nh {lo hi : Int} (h0 : lo < hi) : ∀ (ps : List Int), ZZ ps → NF ps → cl lo hi none ps = nh lo hi (sw ps)
  | [], _, _ => rfl
  | [x], _, _ => by
    rw [cl_cons]
    cases lett lo hi x <;> rfl
  | [x, y], zz, _ => by
    have zz : x ≠ y := zz
    show _ = nh lo hi [rg x y]
    rw [nh_cons, con_one h0 (Con.inside (r := []) (x := x) (y := y) (show Con [x, y] from trivial) zz) zz]
    show _ + cl lo hi none [y] = _ + 0
    rw [cl_cons]
    cases lett lo hi y <;> rfl
  | x :: y :: z :: r, zz, n => by
    have ih := nf_nh h0 (y :: z :: r) zz.2 (fun c q s => n _ _ (.there s))
    show _ = nh lo hi (rg x y :: sw (y :: z :: r))
    rw [nh_cons, ← ih]
    have z1 := zz.1
    by_cases h : (y < x ∧ z ≤ x) ∨ (x < y ∧ x ≤ z)
    · exact con_one h0 (Con.inside (nf_con zz n h) (by omega)) (by omega)
    · exact wide_one h0 (by omega)
/-- the changes of a load are the half-cycles that hold the range -/
theorem chg_count {lo hi : Int} (h0 : lo < hi) {ns rs : List Int} {cs : List (Int × Int)} (h : Run (tp ns) cs rs) (n : NF rs) : chg ns lo hi = 2 * nh lo hi cs + nh lo hi (sw rs) := by
  rw [← cl_tp h0, cl_run h0 h (tp_zz ns), nf_nh h0 rs (h.zz (tp_zz ns)) n]
  omega
/-! just a range: the second difference -/
theorem just_one (lo hi : Int) (r : Int × Int) : b1 (decide (r = (lo, hi))) + b1 (hl (lo - 1) hi r) + b1 (hl lo (hi + 1) r) = b1 (hl lo hi r) + b1 (hl (lo - 1) (hi + 1) r) := by
  obtain ⟨u, v⟩ := r
  simp only [hl_iff]
  have e : decide ((u, v) = (lo, hi)) = decide (u = lo ∧ v = hi) := by simp
  rw [e]
  simp only [b1, decide_eq_true_eq]
  repeat' split
  all_goals omega
theorem just {lo hi : Int} : ∀ rs : List (Int × Int), rs.count (lo, hi) + nh (lo - 1) hi rs + nh lo (hi + 1) rs = nh lo hi rs + nh (lo - 1) (hi + 1) rs
  | [] => rfl
  | r :: rs => by
    have ih := just (lo := lo) (hi := hi) rs
    have h1 := just_one lo hi r
    rw [nh_cons, nh_cons, nh_cons, nh_cons, List.count_cons]
    have e : (if (r == (lo, hi)) = true then 1 else 0) = b1 (decide (r = (lo, hi))) := by
      unfold b1
      by_cases z : r = (lo, hi)
      · simp [z]
      · simp [z]
    rw [e]
    omega
end RC

/-! the number of half-cycles in an up-set of ranges never grows when readings are left out -/
namespace K52
open KM PM RM RN RC
/-- a set of ranges that goes on to wider ones -/
structure Up (U : Int → Int → Bool) : Prop where
  up : ∀ {a b c d : Int}, c ≤ a → b ≤ d → U a b = true → U c d = true
  lt : ∀ {a b : Int}, U a b = true → a < b
inductive S where
  | no
  | bo (m M : Int)
  | up (m : Int)
  | dn (M : Int)
def mn (a b : Int) : Int := if a ≤ b then a else b
def mx (a b : Int) : Int := if a ≤ b then b else a
theorem mn1 (a b : Int) : mn a b ≤ a := by unfold mn; split <;> omega
theorem mn2 (a b : Int) : mn a b ≤ b := by unfold mn; split <;> omega
theorem mx1 (a b : Int) : a ≤ mx a b := by unfold mx; split <;> omega
theorem mx2 (a b : Int) : b ≤ mx a b := by unfold mx; split <;> omega
def nx (U : Int → Int → Bool) : S → Int → S
  | .no, r => .bo r r
  | .bo m M, r => if U m r = true then .dn r else if U r M = true then .up r else .bo (mn m r) (mx M r)
  | .up m, r => if U m r = true then .dn r else .up (mn m r)
  | .dn M, r => if U r M = true then .up r else .dn (mx M r)
def ky (U : Int → Int → Bool) : S → Int → Nat
  | .no, _ => 0
  | .bo m M, r => if U m r = true then 1 else if U r M = true then 1 else 0
  | .up m, r => if U m r = true then 1 else 0
  | .dn M, r => if U r M = true then 1 else 0
def g (U : Int → Int → Bool) : S → List Int → Nat
  | _, [] => 0
  | s, r :: l => ky U s r + g U (nx U s r) l
/-- what stands behind a reading -/
def Seen (U : Int → Int → Bool) : S → Int → Prop
  | .no, _ => False
  | .bo m M, a => m ≤ a ∧ a ≤ M ∧ U m M = false
  | .up m, a => m ≤ a ∧ U m a = false
  | .dn M, a => a ≤ M ∧ U a M = false
def Ok (U : Int → Int → Bool) : S → Prop
  | .bo m M => m ≤ M ∧ U m M = false
  | _ => True
section
variable {U : Int → Int → Bool}
theorem Up.no (h : Up U) {a b c d : Int} (h1 : c ≤ a) (h2 : b ≤ d) (e : U c d = false) : U a b = false := by
  cases x : U a b with
  | false => rfl
  | true => rw [h.up h1 h2 x] at e; exact e
theorem Up.ge (h : Up U) {a b : Int} (e : b ≤ a) : U a b = false := by
  cases x : U a b with
  | false => rfl
  | true => have := h.lt x; omega
theorem seen_nx (h : Up U) {s : S} {a : Int} (o : Ok U s) : Seen U (nx U s a) a ∧ Ok U (nx U s a) := by
  cases s with
  | no => exact ⟨⟨Int.le_refl _, Int.le_refl _, h.ge (Int.le_refl _)⟩, Int.le_refl _, h.ge (Int.le_refl _)⟩
  | bo m M =>
    obtain ⟨o1, o2⟩ := o
    simp only [nx]
    split
    · exact ⟨⟨Int.le_refl _, h.ge (Int.le_refl _)⟩, trivial⟩
    · split
      · exact ⟨⟨Int.le_refl _, h.ge (Int.le_refl _)⟩, trivial⟩
      · rename_i h1 h2
        have e : U (mn m a) (mx M a) = false := by
          unfold mn mx
          split <;> split
          · simpa using h1
          · exact o2
          · exact h.ge (by omega)
          · simpa using h2
        have := mn1 m a
        have := mx1 M a
        exact ⟨⟨mn2 _ _, mx2 _ _, e⟩, by omega, e⟩
  | up m =>
    simp only [nx]
    split
    · exact ⟨⟨Int.le_refl _, h.ge (Int.le_refl _)⟩, trivial⟩
    · rename_i h1
      refine ⟨⟨mn2 _ _, ?_⟩, trivial⟩
      unfold mn
      split
      · simpa using h1
      · exact h.ge (Int.le_refl _)
  | dn M =>
    simp only [nx]
    split
    · exact ⟨⟨Int.le_refl _, h.ge (Int.le_refl _)⟩, trivial⟩
    · rename_i h1
      refine ⟨⟨mx2 _ _, ?_⟩, trivial⟩
      unfold mx
      split
      · exact h.ge (Int.le_refl _)
      · simpa using h1
theorem nx_same (h : Up U) {s : S} {a : Int} (o : Seen U s a) : nx U s a = s ∧ ky U s a = 0 := by
  cases s with
  | no => exact o.elim
  | bo m M =>
    obtain ⟨o1, o2, o3⟩ := o
    have e1 := h.no (Int.le_refl m) o2 o3
    have e2 := h.no o1 (Int.le_refl M) o3
    simp only [nx, ky, e1, e2, mn, mx]
    constructor
    · rw [if_neg (by simp), if_neg (by simp), if_pos o1]
      split
      · rw [show M = a by omega]
      · rfl
    · simp
  | up m =>
    obtain ⟨o1, o2⟩ := o
    simp [nx, ky, o2, mn, o1]
  | dn M =>
    obtain ⟨o1, o2⟩ := o
    simp only [nx, ky, o2, mx]
    constructor
    · rw [if_neg (by simp)]
      split
      · rw [show M = a by omega]
      · rfl
    · simp
theorem g_same (h : Up U) {s : S} {a : Int} (o : Seen U s a) (l : List Int) : g U s (a :: l) = g U s l := by
  obtain ⟨e1, e2⟩ := nx_same h o
  show ky U s a + g U (nx U s a) l = _
  rw [e1, e2, Nat.zero_add]
def b2 (b : Bool) : Nat := if b = true then 1 else 0

theorem mnl {a b : Int} (h : a ≤ b) : mn a b = a := if_pos h
theorem mnr {a b : Int} (h : b ≤ a) : mn a b = b := by unfold mn; split <;> omega
theorem mxl {a b : Int} (h : b ≤ a) : mx a b = a := by unfold mx; split <;> omega
theorem mxr {a b : Int} (h : a ≤ b) : mx a b = b := if_pos h
theorem bo_u {m M r : Int} (e : U m r = true) (l : List Int) : g U (.bo m M) (r :: l) = 1 + g U (.dn r) l := by simp [g, nx, ky, e]
theorem bo_d {m M r : Int} (e1 : U m r = false) (e : U r M = true) (l : List Int) : g U (.bo m M) (r :: l) = 1 + g U (.up r) l := by simp [g, nx, ky, e, e1]
theorem bo_n {m M r : Int} (e1 : U m r = false) (e : U r M = false) (l : List Int) : g U (.bo m M) (r :: l) = g U (.bo (mn m r) (mx M r)) l := by simp [g, nx, ky, e, e1]
theorem up_y {m r : Int} (e : U m r = true) (l : List Int) : g U (.up m) (r :: l) = 1 + g U (.dn r) l := by simp [g, nx, ky, e]
theorem up_n {m r : Int} (e : U m r = false) (l : List Int) : g U (.up m) (r :: l) = g U (.up (mn m r)) l := by simp [g, nx, ky, e]
theorem dn_y {M r : Int} (e : U r M = true) (l : List Int) : g U (.dn M) (r :: l) = 1 + g U (.up r) l := by simp [g, nx, ky, e]
theorem dn_n {M r : Int} (e : U r M = false) (l : List Int) : g U (.dn M) (r :: l) = g U (.dn (mx M r)) l := by simp [g, nx, ky, e]
theorem no_1 {r : Int} (l : List Int) : g U .no (r :: l) = g U (.bo r r) l := by simp [g, nx, ky]
theorem four_up (h : Up U) {s : S} {a b c d : Int} (o : Seen U s a) (post : List Int) (h1 : a ≤ c) (h2 : c < b) (h3 : b ≤ d) : g U s (b :: c :: d :: post) = g U s (d :: post) + 2 * b2 (U c b) := by
  cases s with
  | no => exact o.elim
  | bo m M =>
    obtain ⟨o1, o2, o3⟩ := o
    cases e : U m b with
    | true =>
      have hb : M < b := by
        apply Classical.byContradiction; intro z
        rw [h.no (Int.le_refl m) (show b ≤ M by omega) o3] at e
        cases e
      rw [bo_u e, bo_u (h.up (Int.le_refl m) h3 e)]
      cases f : U c b with
      | true => rw [dn_y f, up_y (h.up (Int.le_refl c) h3 f)]; simp [b2]; omega
      | false => rw [dn_n f, mxl (by omega), dn_n (h.ge h3), mxr h3]; simp [b2]
    | false =>
      have f := h.no (show m ≤ c by omega) (Int.le_refl b) e
      rw [f, bo_n e (h.no (show m ≤ b by omega) (Int.le_refl M) o3), mnl (by omega)]
      have e2 : U c (mx M b) = false := by
        unfold mx; split
        · exact f
        · exact h.no (show m ≤ c by omega) (Int.le_refl M) o3
      have q1 := mx1 M b
      have q2 := mx2 M b
      rw [bo_n (h.no (Int.le_refl m) (show c ≤ b by omega) e) e2, mnl (by omega), mxl (show c ≤ mx M b by omega)]
      cases k : U m d with
      | true => rw [bo_u k, bo_u k]; simp [b2]
      | false =>
        have e3 : U d (mx M b) = false := by
          unfold mx; split
          · exact h.ge h3
          · exact h.no (show m ≤ d by omega) (Int.le_refl M) o3
        rw [bo_n k e3, bo_n k (h.no (show m ≤ d by omega) (Int.le_refl M) o3)]
        have : mx (mx M b) d = mx M d := by unfold mx; repeat (first | split | omega)
        rw [this]; simp [b2]
  | up m =>
    obtain ⟨o1, o2⟩ := o
    cases e : U m b with
    | true =>
      rw [up_y e, up_y (h.up (Int.le_refl m) h3 e)]
      cases f : U c b with
      | true => rw [dn_y f, up_y (h.up (Int.le_refl c) h3 f)]; simp [b2]; omega
      | false => rw [dn_n f, mxl (by omega), dn_n (h.ge h3), mxr h3]; simp [b2]
    | false =>
      rw [h.no (show m ≤ c by omega) (Int.le_refl b) e, up_n e, mnl (by omega), up_n (h.no (Int.le_refl m) (show c ≤ b by omega) e), mnl (by omega)]
      simp [b2]
  | dn M =>
    obtain ⟨o1, o2⟩ := o
    rw [dn_n (h.no (show a ≤ b by omega) (Int.le_refl M) o2)]
    by_cases q : b ≤ M
    · rw [mxl q, dn_n (h.no h1 (Int.le_refl M) o2), mxl (by omega), h.no h1 q o2]; simp [b2]
    · rw [mxr (by omega), dn_n (h.ge (show M ≤ d by omega)), mxr (show M ≤ d by omega)]
      cases f : U c b with
      | true => rw [dn_y f, up_y (h.up (Int.le_refl c) h3 f)]; simp [b2]; omega
      | false => rw [dn_n f, mxl (by omega), dn_n (h.ge h3), mxr h3]; simp [b2]
theorem four_down (h : Up U) {s : S} {a b c d : Int} (o : Seen U s a) (post : List Int) (h1 : c ≤ a) (h2 : b < c) (h3 : d ≤ b) : g U s (b :: c :: d :: post) = g U s (d :: post) + 2 * b2 (U b c) := by
  cases s with
  | no => exact o.elim
  | bo m M =>
    obtain ⟨o1, o2, o3⟩ := o
    rw [show g U (.bo m M) (b :: c :: d :: post) = _ from rfl]
    have k1 := h.no (Int.le_refl m) (show b ≤ M by omega) o3
    have k2 := h.no (Int.le_refl m) (show d ≤ M by omega) o3
    cases e : U b M with
    | true =>
      have hb : b < m := by
        apply Classical.byContradiction; intro z
        rw [h.no (show m ≤ b by omega) (Int.le_refl M) o3] at e
        cases e
      rw [bo_d k1 e, bo_d k2 (h.up h3 (Int.le_refl M) e)]
      cases f : U b c with
      | true => rw [up_y f, dn_y (h.up h3 (Int.le_refl c) f)]; simp [b2]; omega
      | false => rw [up_n f, mnl (by omega), up_n (h.ge h3), mnr h3]; simp [b2]
    | false =>
      have f := h.no (Int.le_refl b) (show c ≤ M by omega) e
      rw [f, bo_n k1 e, mxl (show b ≤ M by omega)]
      have q1 := mn1 m b
      have q2 := mn2 m b
      have e2 : U (mn m b) c = false := by
        unfold mn; split
        · exact h.no (Int.le_refl m) (show c ≤ M by omega) o3
        · exact f
      rw [bo_n e2 (h.no (show b ≤ c by omega) (Int.le_refl M) e), mnl (show mn m b ≤ c by omega), mxl (show c ≤ M by omega)]
      have e3 : U (mn m b) d = false := by
        unfold mn; split
        · exact k2
        · exact h.ge h3
      cases k : U d M with
      | true => rw [bo_d e3 k, bo_d k2 k]; simp [b2]
      | false =>
        rw [bo_n e3 k, bo_n k2 k]
        have : mn (mn m b) d = mn m d := by unfold mn; repeat (first | split | omega)
        rw [this]; simp [b2]
  | up m =>
    obtain ⟨o1, o2⟩ := o
    rw [up_n (h.no (Int.le_refl m) (show b ≤ a by omega) o2)]
    by_cases q : m ≤ b
    · rw [mnl q, up_n (h.no (Int.le_refl m) h1 o2), mnl (by omega), h.no q h1 o2]; simp [b2]
    · rw [mnr (by omega), up_n (h.ge (show d ≤ m by omega)), mnr (show d ≤ m by omega)]
      cases f : U b c with
      | true => rw [up_y f, dn_y (h.up h3 (Int.le_refl c) f)]; simp [b2]; omega
      | false => rw [up_n f, mnl (by omega), up_n (h.ge h3), mnr h3]; simp [b2]
  | dn M =>
    obtain ⟨o1, o2⟩ := o
    cases e : U b M with
    | true =>
      rw [dn_y e, dn_y (h.up h3 (Int.le_refl M) e)]
      cases f : U b c with
      | true => rw [up_y f, dn_y (h.up h3 (Int.le_refl c) f)]; simp [b2]; omega
      | false => rw [up_n f, mnl (by omega), up_n (h.ge h3), mnr h3]; simp [b2]
    | false =>
      rw [h.no (Int.le_refl b) (show c ≤ M by omega) e, dn_n e, mxl (by omega), dn_n (h.no (show b ≤ c by omega) (Int.le_refl M) e), mxl (by omega)]
      simp [b2]
theorem g_btw (h : Up U) {s : S} {b a r : Int} (o : Seen U s b) (l : List Int) (z : Btw a b r) : g U s (a :: r :: l) = g U s (r :: l) := by
  rcases (show (b ≤ a ∧ a ≤ r) ∨ (r ≤ a ∧ a ≤ b) from by unfold Btw at z; omega) with ⟨h1, h2⟩ | ⟨h1, h2⟩
  · cases s with
    | no => exact o.elim
    | up m =>
      obtain ⟨o1, o2⟩ := o
      cases e : U m a with
      | true => rw [up_y e, dn_n (h.ge h2), mxr h2, up_y (h.up (Int.le_refl m) h2 e)]
      | false => rw [up_n e, mnl (by omega)]
    | dn M =>
      obtain ⟨o1, o2⟩ := o
      rw [dn_n (h.no h1 (Int.le_refl M) o2)]
      by_cases q : a ≤ M
      · rw [mxl q]
      · rw [mxr (by omega), dn_n (h.ge h2), mxr h2, dn_n (h.ge (show M ≤ r by omega)), mxr (show M ≤ r by omega)]
    | bo m M =>
      obtain ⟨o1, o2, o3⟩ := o
      have n3 := h.no (show m ≤ r by omega) (Int.le_refl M) o3
      cases e : U m a with
      | true => rw [bo_u e, dn_n (h.ge h2), mxr h2, bo_u (h.up (Int.le_refl m) h2 e)]
      | false =>
        rw [bo_n e (h.no (show m ≤ a by omega) (Int.le_refl M) o3), mnl (by omega)]
        cases k : U m r with
        | true => rw [bo_u k, bo_u k]
        | false =>
          have e3 : U r (mx M a) = false := by
            unfold mx; split
            · exact h.ge h2
            · exact n3
          rw [bo_n k e3, bo_n k n3]
          have : mx (mx M a) r = mx M r := by unfold mx; repeat (first | split | omega)
          rw [this]
  · cases s with
    | no => exact o.elim
    | dn M =>
      obtain ⟨o1, o2⟩ := o
      cases e : U a M with
      | true => rw [dn_y e, up_n (h.ge h1), mnr h1, dn_y (h.up h1 (Int.le_refl M) e)]
      | false => rw [dn_n e, mxl (by omega)]
    | up m =>
      obtain ⟨o1, o2⟩ := o
      rw [up_n (h.no (Int.le_refl m) h2 o2)]
      by_cases q : m ≤ a
      · rw [mnl q]
      · rw [mnr (by omega), up_n (h.ge h1), mnr h1, up_n (h.ge (show r ≤ m by omega)), mnr (show r ≤ m by omega)]
    | bo m M =>
      obtain ⟨o1, o2, o3⟩ := o
      have n3 := h.no (Int.le_refl m) (show r ≤ M by omega) o3
      have n4 := h.no (Int.le_refl m) (show a ≤ M by omega) o3
      cases e : U a M with
      | true => rw [bo_d n4 e, up_n (h.ge h1), mnr h1, bo_d n3 (h.up h1 (Int.le_refl M) e)]
      | false =>
        rw [bo_n n4 e, mxl (by omega)]
        have e3 : U (mn m a) r = false := by
          unfold mn; split
          · exact n3
          · exact h.ge h1
        cases k : U r M with
        | true => rw [bo_d e3 k, bo_d n3 k]
        | false =>
          rw [bo_n e3 k, bo_n n3 k]
          have : mn (mn m a) r = mn m r := by unfold mn; repeat (first | split | omega)
          rw [this]
theorem g_cons (s : S) (r : Int) (l : List Int) : g U s (r :: l) = ky U s r + g U (nx U s r) l := rfl
/-- how many ranges are in the set -/
def nU (U : Int → Int → Bool) (rs : List (Int × Int)) : Nat := rs.countP fun r => U r.1 r.2
theorem nU_cons (r : Int × Int) (rs : List (Int × Int)) : nU U (r :: rs) = b2 (U r.1 r.2) + nU U rs := by
  unfold nU b2
  rw [List.countP_cons]
  omega
theorem g_step (h : Up U) {p q : List Int} {c : Int × Int} (t : Step p c q) : ZZ p → ∀ s, Ok U s → g U s p = g U s q + 2 * b2 (U c.1 c.2) := by
  induction t with
  | @here a b c d post t =>
    intro z s o
    have sn := (seen_nx h (a := a) o).1
    rcases (taken_iff z.four).mp t with ⟨x1, x2, x3, x4, x5⟩ | ⟨x1, x2, x3, x4, x5⟩
    · rw [rg_down x2, g_cons, g_cons s a (d :: post), four_up h sn post x4 x2 x5]; dsimp only; omega
    · rw [rg_up x2, g_cons, g_cons s a (d :: post), four_down h sn post x4 x2 x5]; dsimp only; omega
  | @there x p q cy t ih =>
    intro z s o
    rw [g_cons, g_cons, ih z.tail _ (seen_nx h o).2]
    omega
theorem g_run (h : Up U) {p q : List Int} {cs : List (Int × Int)} (t : Run p cs q) : ZZ p → ∀ s, Ok U s → g U s p = g U s q + 2 * nU U cs := by
  induction t with
  | nil p => intro _ s _; rfl
  | cons t _ ih =>
    intro z s o
    rw [g_step h t z s o, ih (ZZ.step t z) s o, nU_cons]
    omega
theorem g_tq (h : Up U) : ∀ (l : List Int) (s : S) (b a : Int), Seen U s b → Ok U s → g U s (tq b a l) = g U s (a :: l)
  | [], _, _, _, _, _ => rfl
  | r :: l, s, b, a, o, k => by
    simp only [tq]
    by_cases e : a = r
    · rw [if_pos e, g_tq h l s b a o k, ← e, g_cons, g_cons s a (a :: l), g_same h (seen_nx h k).1]
    · rw [if_neg e]
      by_cases bt : Btw a b r
      · rw [if_pos bt, g_tq h l s b r o k, g_btw h o l bt]
      · rw [if_neg bt, g_cons, g_cons s a (r :: l), g_tq h l _ a r (seen_nx h k).1 (seen_nx h k).2]
theorem g_ts (h : Up U) : ∀ (l : List Int) (s : S) (a : Int), Ok U s → g U s (ts a l) = g U s (a :: l)
  | [], _, _, _ => rfl
  | r :: l, s, a, k => by
    simp only [ts]
    by_cases e : a = r
    · rw [if_pos e, g_ts h l s a k, ← e, g_cons, g_cons s a (a :: l), g_same h (seen_nx h k).1]
    · rw [if_neg e, g_cons, g_cons s a (r :: l), g_tq h l _ a r (seen_nx h k).1 (seen_nx h k).2]
theorem g_tp (h : Up U) (ns : List Int) : g U .no (tp ns) = g U .no ns := by
  cases ns with
  | nil => rfl
  | cons a l => exact g_ts h l .no a trivial
theorem dn_bo (h : Up U) {M : Int} : ∀ (r : List Int) (m : Int), (∀ w ∈ r, w ≤ M) → m ≤ M → U m M = false → g U (.dn M) r = g U (.bo m M) r
  | [], _, _, _, _ => rfl
  | w :: r, m, hw, hm, e => by
    have w1 := hw w List.mem_cons_self
    have e1 := h.no (Int.le_refl m) w1 e
    cases k : U w M with
    | true => rw [dn_y k, bo_d e1 k]
    | false =>
      rw [dn_n k, bo_n e1 k, mxl w1]
      refine dn_bo h r _ (fun v hv => hw v (List.mem_cons_of_mem _ hv)) ?_ ?_
      · have := mn1 m w; omega
      · unfold mn; split
        · exact e
        · exact k
theorem up_bo (h : Up U) {m : Int} : ∀ (r : List Int) (M : Int), (∀ w ∈ r, m ≤ w) → m ≤ M → U m M = false → g U (.up m) r = g U (.bo m M) r
  | [], _, _, _, _ => rfl
  | w :: r, M, hw, hm, e => by
    have w1 := hw w List.mem_cons_self
    have e1 := h.no w1 (Int.le_refl M) e
    cases k : U m w with
    | true => rw [up_y k, bo_u k]
    | false =>
      rw [up_n k, bo_n k e1, mnl w1]
      refine up_bo h r _ (fun v hv => hw v (List.mem_cons_of_mem _ hv)) ?_ ?_
      · have := mx1 M w; omega
      · unfold mx; split
        · exact k
        · exact e
theorem bo_none (h : Up U) {u v : Int} (e : U u v = false) : ∀ (r : List Int) (m M : Int), (∀ w ∈ r, u ≤ w ∧ w ≤ v) → u ≤ m → M ≤ v → g U (.bo m M) r = 0
  | [], _, _, _, _, _ => rfl
  | w :: r, m, M, hw, hm, hM => by
    have w1 := hw w List.mem_cons_self
    rw [bo_n (h.no hm w1.2 e) (h.no w1.1 hM e)]
    refine bo_none h e r _ _ (fun x hx => hw x (List.mem_cons_of_mem _ hx)) ?_ ?_
    · unfold mn; split <;> omega
    · unfold mx; split <;> omega
theorem con_one (h : Up U) {x y : Int} {r : List Int} (c : In (if x < y then x else y) (if x < y then y else x) (x :: y :: r)) (ne : x ≠ y) : g U .no (x :: y :: r) = b2 (U (rg x y).1 (rg x y).2) + g U .no (y :: r) := by
  have ge := h.ge (Int.le_refl y)
  rcases (show x < y ∨ y < x by omega) with h1 | h1
  · rw [if_pos h1, if_pos h1] at c
    have cr : ∀ w ∈ r, x ≤ w ∧ w ≤ y := fun w hw => c w (List.mem_cons_of_mem _ (List.mem_cons_of_mem _ hw))
    rw [rg_up h1, no_1, no_1]
    show _ = b2 (U x y) + _
    cases e : U x y with
    | true => rw [bo_u e, dn_bo h r y (fun w hw => (cr w hw).2) (Int.le_refl y) ge]; simp [b2]
    | false => rw [bo_n e (h.ge (show x ≤ y by omega)), mnl (by omega), mxr (by omega), bo_none h e r x y cr (Int.le_refl _) (Int.le_refl _), bo_none h e r y y cr (by omega) (Int.le_refl _)]; simp [b2]
  · rw [if_neg (by omega), if_neg (by omega)] at c
    have cr : ∀ w ∈ r, y ≤ w ∧ w ≤ x := fun w hw => c w (List.mem_cons_of_mem _ (List.mem_cons_of_mem _ hw))
    rw [rg_down h1, no_1, no_1]
    show _ = b2 (U y x) + _
    have f := h.ge (show y ≤ x by omega)
    cases e : U y x with
    | true => rw [bo_d f e, up_bo h r y (fun w hw => (cr w hw).1) (Int.le_refl y) ge]; simp [b2]
    | false => rw [bo_n f e, mnr (by omega), mxl (by omega), bo_none h e r y x cr (Int.le_refl _) (Int.le_refl _), bo_none h e r y y cr (Int.le_refl _) (by omega)]; simp [b2]
theorem wide_one (h : Up U) {x y z : Int} {r : List Int} (k : (y < x ∧ x < z) ∨ (x < y ∧ z < x)) : g U .no (x :: y :: z :: r) = b2 (U (rg x y).1 (rg x y).2) + g U .no (y :: z :: r) := by
  rcases k with ⟨h1, h2⟩ | ⟨h1, h2⟩
  · rw [rg_down h1, no_1, no_1]
    show _ = b2 (U y x) + _
    have f := h.ge (show y ≤ x by omega)
    have fz := h.ge (show y ≤ z by omega)
    cases e : U y x with
    | true =>
      have k := h.up (Int.le_refl y) (show x ≤ z by omega) e
      rw [bo_d f e, up_y k, bo_u k]; simp [b2]
    | false =>
      rw [bo_n f e, mnr (by omega), mxl (by omega)]
      cases k : U y z with
      | true => rw [bo_u k, bo_u k]; simp [b2]
      | false => rw [bo_n k (h.ge (show x ≤ z by omega)), bo_n k fz, mxr (show x ≤ z by omega), mxr (show y ≤ z by omega)]; simp [b2]
  · rw [rg_up h1, no_1, no_1]
    show _ = b2 (U x y) + _
    have f := h.ge (show x ≤ y by omega)
    have fz := h.ge (show z ≤ y by omega)
    cases e : U x y with
    | true =>
      have k := h.up (show z ≤ x by omega) (Int.le_refl y) e
      rw [bo_u e, dn_y k, bo_d fz k]; simp [b2]
    | false =>
      rw [bo_n e f, mnl (by omega), mxr (by omega)]
      cases k : U z y with
      | true => rw [bo_d (h.ge (show z ≤ x by omega)) k, bo_d fz k]; simp [b2]
      | false => rw [bo_n (h.ge (show z ≤ x by omega)) k, bo_n fz k, mnr (show z ≤ x by omega), mnr (show z ≤ y by omega)]; simp [b2]
theorem nf_g (h : Up U) : ∀ (ps : List Int), ZZ ps → NF ps → g U .no ps = nU U (sw ps)
  | [], _, _ => rfl
  | [x], _, _ => rfl
  | [x, y], zz, _ => by
    have zz : x ≠ y := zz
    show _ = nU U [rg x y]
    rw [nU_cons, con_one h (Con.inside (r := []) (x := x) (y := y) (show Con [x, y] from trivial) zz) zz]
    rfl
  | x :: y :: z :: r, zz, n => by
    have ih := nf_g h (y :: z :: r) zz.2 (fun c q s => n _ _ (.there s))
    show _ = nU U (rg x y :: sw (y :: z :: r))
    rw [nU_cons, ← ih]
    have z1 := zz.1
    by_cases k : (y < x ∧ z ≤ x) ∨ (x < y ∧ x ≤ z)
    · exact con_one h (Con.inside (nf_con zz n k) (by omega)) (by omega)
    · exact wide_one h (by omega)
/-- the half-cycles of a load that are in the set -/
theorem count_g (h : Up U) {ns rs : List Int} {cs : List (Int × Int)} (t : Run (tp ns) cs rs) (n : NF rs) : g U .no ns = 2 * nU U cs + nU U (sw rs) := by
  rw [← g_tp h, g_run h t (tp_zz ns) .no trivial, nf_g h rs (t.zz (tp_zz ns)) n]
  omega
/-! readings left out -/
def R (U : Int → Int → Bool) : S → S → Nat → Prop
  | .no, .no, k => k = 0
  | .no, .bo m M, k => k = 0 ∧ m ≤ M ∧ U m M = false
  | .no, .up _, k => 1 ≤ k
  | .no, .dn _, k => 1 ≤ k
  | .bo m M, .bo m2 M2, k => k = 0 ∧ m2 ≤ m ∧ M ≤ M2 ∧ m ≤ M ∧ U m2 M2 = false
  | .bo m _, .up m2, k => 2 ≤ k ∨ (k = 1 ∧ m2 ≤ m)
  | .bo _ M, .dn M2, k => 2 ≤ k ∨ (k = 1 ∧ M ≤ M2)
  | .up m, .up m2, k => 2 ≤ k ∨ m2 ≤ m
  | .dn M, .dn M2, k => 2 ≤ k ∨ M ≤ M2
  | .up _, .dn _, k => 1 ≤ k
  | .dn _, .up _, k => 1 ≤ k
  | _, _, _ => False

theorem R_skip (h : Up U) {s t : S} {k : Nat} (r : Int) (hR : R U s t k) : R U s (nx U t r) (k + ky U t r) := by
  have hup := @Up.up U h
  have hlt := @Up.lt U h
  cases s <;> cases t <;> simp only [R] at hR <;> (try exact hR.elim) <;> simp only [nx, ky] <;> (repeat' split) <;> simp only [R, mn, mx] <;> grind
theorem R_both (h : Up U) {s t : S} {k : Nat} (r : Int) (hR : R U s t k) : ky U s r ≤ k + ky U t r ∧ R U (nx U s r) (nx U t r) (k + ky U t r - ky U s r) := by
  have hup := @Up.up U h
  have hlt := @Up.lt U h
  cases s <;> cases t <;> simp only [R] at hR <;> (try exact hR.elim) <;> simp only [nx, ky] <;> (repeat' split) <;> simp only [R, mn, mx] <;> grind
theorem g_sub (h : Up U) {l m : List Int} (t : l.Sublist m) : ∀ (s u : S) (k : Nat), R U s u k → g U s l ≤ k + g U u m := by
  induction t with
  | slnil => intro s u k _; exact Nat.zero_le _
  | cons r _ ih =>
    intro s u k hR
    have := ih _ _ _ (R_skip h r hR)
    rw [g_cons u]
    omega
  | cons_cons r _ ih =>
    intro s u k hR
    obtain ⟨e, hR2⟩ := R_both h r hR
    have := ih _ _ _ hR2
    rw [g_cons u, g_cons s]
    omega
theorem sub_le (h : Up U) {l m : List Int} (t : l.Sublist m) : g U .no l ≤ g U .no m := by
  have := g_sub h t .no .no 0 rfl
  omega
end
end K52

/-! amounts and wear of tables -/
namespace K52b
open KM PM RM RN RC K52
def top : List Int → Int
  | [] => 0
  | n :: ns => ns.foldl max n
theorem fold_max : ∀ (l : List Int) (n t : Int), t < l.foldl max n ↔ t < n ∨ ∃ x ∈ l, t < x
  | [], n, t => by simp
  | a :: l, n, t => by
    rw [List.foldl_cons, fold_max l (max n a) t]
    constructor
    · rintro (h | ⟨x, hx, h⟩)
      · rcases (show t < n ∨ t < a by omega) with h | h
        · exact .inl h
        · exact .inr ⟨a, List.mem_cons_self, h⟩
      · exact .inr ⟨x, List.mem_cons_of_mem _ hx, h⟩
    · rintro (h | ⟨x, hx, h⟩)
      · exact .inl (by omega)
      · rcases List.mem_cons.mp hx with e | hx
        · subst e; exact .inl (by omega)
        · exact .inr ⟨x, hx, h⟩
theorem top_lt (l : List Int) {t : Int} (h : 0 ≤ t) : t < top l ↔ ∃ x ∈ l, t < x := by
  cases l with
  | nil =>
    show t < 0 ↔ _
    constructor
    · intro z; omega
    · rintro ⟨x, hx, _⟩; exact (List.not_mem_nil hx).elim
  | cons n ns =>
    show t < ns.foldl max n ↔ _
    rw [fold_max]
    constructor
    · rintro (z | ⟨x, hx, z⟩)
      · exact ⟨n, List.mem_cons_self, z⟩
      · exact ⟨x, List.mem_cons_of_mem _ hx, z⟩
    · rintro ⟨x, hx, z⟩
      rcases List.mem_cons.mp hx with e | hx
      · subst e; exact .inl z
      · exact .inr ⟨x, hx, z⟩
theorem top_nonneg {l : List Int} (h : ∀ x ∈ l, 0 ≤ x) : 0 ≤ top l := by
  cases l with
  | nil => exact Int.le_refl _
  | cons n ns =>
    have h0 := h n List.mem_cons_self
    apply Classical.byContradiction
    intro z
    have := (fold_max ns n (n - 1)).mpr (.inl (by omega))
    have e : top (n :: ns) = ns.foldl max n := rfl
    omega
abbrev Ent := Int × Int × Int
def Good (T : List Ent) : Prop := ∀ e ∈ T, e.1 < e.2.1 ∧ 0 ≤ e.2.2
def has (lo hi : Int) (e : Ent) : Bool := decide (lo ≤ e.1) && decide (e.2.1 ≤ hi)
def amts (T : List Ent) (lo hi : Int) : List Int := (T.filter (has lo hi)).map (·.2.2)
def amt (T : List Ent) (lo hi : Int) : Int := top (amts T lo hi)
theorem has_iff {lo hi : Int} {e : Ent} : has lo hi e = true ↔ lo ≤ e.1 ∧ e.2.1 ≤ hi := by unfold has; simp
theorem amt_lt (T : List Ent) (lo hi : Int) {t : Int} (h : 0 ≤ t) : t < amt T lo hi ↔ ∃ e ∈ T, (lo ≤ e.1 ∧ e.2.1 ≤ hi) ∧ t < e.2.2 := by
  unfold amt
  rw [top_lt _ h]
  unfold amts
  constructor
  · rintro ⟨x, hx, z⟩
    obtain ⟨e, he, rfl⟩ := List.mem_map.mp hx
    obtain ⟨e1, e2⟩ := List.mem_filter.mp he
    exact ⟨e, e1, has_iff.mp e2, z⟩
  · rintro ⟨e, he, h2, z⟩
    exact ⟨e.2.2, List.mem_map.mpr ⟨e, List.mem_filter.mpr ⟨he, has_iff.mpr h2⟩, rfl⟩, z⟩
theorem amt_nonneg {T : List Ent} (g : Good T) (lo hi : Int) : 0 ≤ amt T lo hi := by
  refine top_nonneg fun x hx => ?_
  obtain ⟨e, he, rfl⟩ := List.mem_map.mp hx
  exact (g e (List.mem_filter.mp he).1).2
theorem same_lt {a b : Int} (h1 : 0 ≤ a) (h2 : 0 ≤ b) (h : ∀ t, 0 ≤ t → (t < a ↔ t < b)) : a = b := by
  apply Classical.byContradiction
  intro z
  rcases (show a < b ∨ b < a by omega) with k | k
  · have := (h a h1).mpr k; omega
  · have := (h b h2).mp k; omega
theorem Good.app {T S : List Ent} (g : Good T) (h : Good S) : Good (T ++ S) := fun e he => (List.mem_append.mp he).elim (g e) (h e)
theorem Good.rev {T : List Ent} (g : Good T) : Good T.reverse := fun e he => g e (List.mem_reverse.mp he)
theorem good_one {e : Ent} (h : e.1 < e.2.1 ∧ 0 ≤ e.2.2) : Good [e] := fun f hf => by rw [List.mem_singleton.mp hf]; exact h
theorem amt_app {T : List Ent} (g : Good T) {e : Ent} (k : e.1 < e.2.1 ∧ 0 ≤ e.2.2) (lo hi : Int) : amt (T ++ [e]) lo hi = if (decide (lo ≤ e.1) && decide (e.2.1 ≤ hi)) = true then (if e.2.2 > amt T lo hi then e.2.2 else amt T lo hi) else amt T lo hi := by
  have n1 := amt_nonneg g lo hi
  have n2 := amt_nonneg (g.app (good_one k)) lo hi
  refine same_lt n2 (by split <;> (try split) <;> omega) fun t ht => ?_
  have f := amt_lt T lo hi ht
  rw [amt_lt _ lo hi ht]
  constructor
  · rintro ⟨x, hx, hh, z⟩
    rcases List.mem_append.mp hx with m | m
    · have := f.mpr ⟨x, m, hh, z⟩
      split <;> (try split) <;> omega
    · rw [List.mem_singleton.mp m] at hh z
      rw [if_pos (by simpa using hh)]
      split <;> omega
  · intro z
    have old : t < amt T lo hi → ∃ x ∈ T ++ [e], (lo ≤ x.1 ∧ x.2.1 ≤ hi) ∧ t < x.2.2 := fun q => by
      obtain ⟨x, m, hh, z⟩ := f.mp q
      exact ⟨x, List.mem_append_left _ m, hh, z⟩
    split at z
    · rename_i hh
      split at z
      · exact ⟨e, List.mem_append_right _ List.mem_cons_self, by simpa using hh, z⟩
      · exact old z
    · exact old z
theorem amt_idle {T : List Ent} (g : Good T) {e : Ent} (k : e.1 < e.2.1 ∧ e.2.2 = 0) (lo hi : Int) : amt (T.reverse ++ T ++ [e]) lo hi = amt T lo hi := by
  refine same_lt (amt_nonneg ((g.rev.app g).app (good_one ⟨k.1, by omega⟩)) lo hi) (amt_nonneg g lo hi) fun t ht => ?_
  rw [amt_lt _ lo hi ht, amt_lt _ lo hi ht]
  constructor
  · rintro ⟨x, hx, hh, z⟩
    rcases List.mem_append.mp hx with m | m
    · rcases List.mem_append.mp m with m | m
      · exact ⟨x, List.mem_reverse.mp m, hh, z⟩
      · exact ⟨x, m, hh, z⟩
    · rw [List.mem_singleton.mp m] at z
      omega
  · rintro ⟨x, m, hh, z⟩
    exact ⟨x, List.mem_append_left _ (List.mem_append_right _ m), hh, z⟩
theorem amt_mono {T : List Ent} (g : Good T) {lo hi lo2 hi2 : Int} (h1 : lo ≤ lo2) (h2 : hi2 ≤ hi) : amt T lo2 hi2 ≤ amt T lo hi := by
  apply Classical.byContradiction
  intro z
  have n := amt_nonneg g lo hi
  obtain ⟨x, m, hh, k⟩ := (amt_lt T lo2 hi2 n).mp (by omega)
  have := (amt_lt T lo hi n).mpr ⟨x, m, by omega, k⟩
  omega
def wear (T : List Ent) (rs : List (Int × Int)) : Int := (rs.map fun r => amt T r.1 r.2).sum
theorem wear_app (T : List Ent) (rs ss : List (Int × Int)) : wear T (rs ++ ss) = wear T rs + wear T ss := by
  unfold wear
  rw [List.map_append, List.sum_append]
def Ut (T : List Ent) (t : Nat) (a b : Int) : Bool := decide ((t : Int) < amt T a b)
theorem up_t {T : List Ent} (g : Good T) (t : Nat) : Up (Ut T t) := by
  constructor
  · intro a b c d h1 h2 h
    have h := of_decide_eq_true h
    have := amt_mono g h1 h2
    exact decide_eq_true (by omega)
  · intro a b h
    have h := of_decide_eq_true h
    obtain ⟨x, m, hh, _⟩ := (amt_lt T a b (Int.natCast_nonneg t)).mp h
    have := (g x m).1
    omega
def cut (T : List Ent) (M : Nat) (rs : List (Int × Int)) : Int := (rs.map fun r => if amt T r.1 r.2 ≤ M then amt T r.1 r.2 else (M : Int)).sum
theorem cut_succ {T : List Ent} (g : Good T) (M : Nat) : ∀ rs : List (Int × Int), cut T (M + 1) rs = cut T M rs + nU (Ut T M) rs
  | [] => rfl
  | r :: rs => by
    have ih := cut_succ g M rs
    rw [nU_cons]
    show (if amt T r.1 r.2 ≤ ((M + 1 : Nat) : Int) then amt T r.1 r.2 else ((M + 1 : Nat) : Int)) + cut T (M + 1) rs = (if amt T r.1 r.2 ≤ (M : Int) then amt T r.1 r.2 else (M : Int)) + cut T M rs + _
    rw [ih]
    have e : Ut T M r.1 r.2 = decide ((M : Int) < amt T r.1 r.2) := rfl
    by_cases h : (M : Int) < amt T r.1 r.2
    · have e2 : b2 (Ut T M r.1 r.2) = 1 := by rw [e, decide_eq_true h]; rfl
      rw [e2, if_neg (by omega : ¬ amt T r.1 r.2 ≤ (M : Int))]
      split <;> omega
    · have e2 : b2 (Ut T M r.1 r.2) = 0 := by rw [e, decide_eq_false h]; rfl
      rw [e2, if_pos (by omega), if_pos (by omega)]
      omega
theorem cut_zero {T : List Ent} (g : Good T) : ∀ rs : List (Int × Int), cut T 0 rs = 0
  | [] => rfl
  | r :: rs => by
    have ih := cut_zero g rs
    have := amt_nonneg g r.1 r.2
    show (if amt T r.1 r.2 ≤ ((0 : Nat) : Int) then amt T r.1 r.2 else ((0 : Nat) : Int)) + cut T 0 rs = 0
    rw [ih]
    split <;> omega
theorem wear_nonneg {T : List Ent} (g : Good T) : ∀ rs : List (Int × Int), 0 ≤ wear T rs
  | [] => Int.le_refl _
  | r :: rs => by
    have ih := wear_nonneg g rs
    have := amt_nonneg g r.1 r.2
    show 0 ≤ amt T r.1 r.2 + wear T rs
    omega
theorem cut_all {T : List Ent} (g : Good T) (M : Nat) : ∀ rs : List (Int × Int), wear T rs ≤ M → cut T M rs = wear T rs
  | [], _ => rfl
  | r :: rs, h => by
    have n1 := wear_nonneg g rs
    have n2 := amt_nonneg g r.1 r.2
    have h2 : amt T r.1 r.2 + wear T rs ≤ M := h
    have ih := cut_all g M rs (by omega)
    show (if amt T r.1 r.2 ≤ (M : Int) then amt T r.1 r.2 else (M : Int)) + cut T M rs = amt T r.1 r.2 + wear T rs
    rw [ih, if_pos (by omega)]
theorem wear_le {T : List Ent} (g : Good T) {rs ss : List (Int × Int)} (h : ∀ U, Up U → nU U rs ≤ nU U ss) : wear T rs ≤ wear T ss := by
  have key : ∀ M, cut T M rs ≤ cut T M ss := by
    intro M
    induction M with
    | zero => rw [cut_zero g, cut_zero g]; exact Int.le_refl _
    | succ M ih =>
      rw [cut_succ g, cut_succ g]
      have := h _ (up_t g M)
      omega
  have n1 := wear_nonneg g rs
  have n2 := wear_nonneg g ss
  have k := key (wear T rs + wear T ss).toNat
  rw [cut_all g _ rs (by omega), cut_all g _ ss (by omega)] at k
  exact k
/-- a load with readings left out wears no more -/
theorem wear_sub {T : List Ent} (g : Good T) {less load : List Int} (t : less.Sublist load) {cs ds cs2 ds2 : List (Int × Int)} {rs rs2 : List Int} {hs hs2 : List (Int × Int)}
    (r : Run (tp load) cs rs) (n : NF rs) (p : ds.Perm cs) (h : hs.Perm (ds ++ ds ++ sw rs)) (r2 : Run (tp less) cs2 rs2) (n2 : NF rs2) (p2 : ds2.Perm cs2) (h2 : hs2.Perm (ds2 ++ ds2 ++ sw rs2)) : wear T hs2 ≤ wear T hs := by
  refine wear_le g fun U up => ?_
  have c1 := count_g up r n
  have c2 := count_g up r2 n2
  have := sub_le up t
  have e1 : nU U hs = 2 * nU U cs + nU U (sw rs) := by
    have q : nU U ds = nU U cs := p.countP_eq _
    have : nU U hs = nU U (ds ++ ds ++ sw rs) := h.countP_eq _
    rw [this]
    unfold nU at *
    rw [List.countP_append, List.countP_append, q]
    omega
  have e2 : nU U hs2 = 2 * nU U cs2 + nU U (sw rs2) := by
    have q : nU U ds2 = nU U cs2 := p2.countP_eq _
    have : nU U hs2 = nU U (ds2 ++ ds2 ++ sw rs2) := h2.countP_eq _
    rw [this]
    unfold nU at *
    rw [List.countP_append, List.countP_append, q]
    omega
  omega
end K52b

/-! max(xs, default=d) of a list of ints -/
namespace GM
open PySem PySem.Spec PyProof.Rows L2 PH
def topD (d : Int) : List Int → Int
  | [] => d
  | n :: ns => ns.foldl max n
theorem alike_ints (ns : List Int) : PySem.W.AlikeAll (ns.map PyData.int) := by
  refine ⟨fun x hx y hy => ?_, fun x hx => ?_⟩
  · obtain ⟨a, _, rfl⟩ := List.mem_map.mp hx
    obtain ⟨b, _, rfl⟩ := List.mem_map.mp hy
    rfl
  · obtain ⟨a, _, rfl⟩ := List.mem_map.mp hx
    intro h
    cases h
theorem depth_ints : ∀ ns : List Int, PyData.depthAll (ns.map PyData.int) ≤ 1
  | [] => Nat.zero_le _
  | n :: ns => by
    have := depth_ints ns
    simp only [List.map_cons, PyData.depthAll, PyData.depth]
    omega
section
variable {X : Cx}
def rMaxD (K : PySem.W.Frag) : List V → List V → Hp → VK → Prop := fun vs zs H Q => ∃ (a : Addr) (ns : List Int) (d : Int), vs = [V.ref a] ∧ zs = [V.int d] ∧ SqL K H a (ns.map V.int) ∧ Q (.int (topD d ns)) H
theorem cr_maxD (hc : X.calm = true) (hu : X.A.units + 100 < cLine) : CallRK X (.builtin "max") [Str.ofString "default"] (rMaxD X.K) := by
  intro pins s σ H xs zs us ws Q I rx rz h
  obtain ⟨a, ns, d, rfl, rfl, hs, q⟩ := h
  obtain ⟨its, rv, hl, _⟩ := I.list hs
  rw [Vals.ref1 rx]
  obtain ⟨t, rfl⟩ : ∃ t, ws = [Value.int d t] := by
    cases rz with
    | cons r1 r2 =>
      obtain ⟨t, rfl⟩ := r1
      cases r2
      exact ⟨t, rfl⟩
  have ra := ints_readAll s.heap rv.ints
  show wpAny _ _ (call (.builtin "max") [.ref a] [(Str.ofString "default", .int d t)]) _ _ s
  refine PySem.W.max_list_default (I.ok.hd hc) hl.isList ra (alike_ints ns) (by have := depth_ints ns; omega) (fun e h' tk hk => ?_) (fun y ys i v h' tk bs e hv rd hk => ?_)
  · have : ns = [] := by
      cases ns with
      | nil => rfl
      | cons _ _ => cases e
    subst this
    exact ⟨.int d, H, I.kept hk, ⟨_, rfl⟩, q⟩
  · cases ns with
    | nil => cases e
    | cons n ns =>
      cases e
      rw [PySem.W.maxD_ints] at rd
      cases rd with
      | int i t2 => exact ⟨.int _, H, I.kept hk, ⟨_, rfl⟩, q⟩
end
end GM

/-! walks and items of what is a list or a tuple; keyword-only parameters -/
namespace GB
open PySem PySem.Spec PyProof.Rows L2 PH KA
section
variable {X : Cx} {tg l : Expr} {tl : TE}
def iBoth (K : PySem.W.Frag) (tl : TE) : TI := fun σ H R => tl σ H fun x H1 => ∃ a, x = .ref a ∧ (((∃ xs, SqL K H1 a xs) ∧ R (Itl K a) H1) ∨ ((∃ xs, SqT K H1 a xs) ∧ R (Itt K a) H1))
theorem pi_both (hl : PE X l tl) : PI X tg l (iBoth X.K tl) := by
  refine ⟨fun pins s σ H R I h => ?_⟩
  refine thn (hl.run pins s σ H _ I h) fun v s1 ⟨x, H1, I1, r1, q1⟩ => ?_
  obtain ⟨a, e, q⟩ := q1
  subst e
  cases r1
  rcases q with ⟨⟨xs, hq⟩, q⟩ | ⟨⟨xs, hq⟩, q⟩
  · obtain ⟨its, rv, p, hz⟩ := I1.list hq
    refine wpAny_pyIter_list p.isList ?_
    refine ⟨s1.heap.objs.size, [s1.heap.objs.size], _, _, H1, rfl, I1.kept (t' := s1.toks) fun b o e => Heap.get?_push_of_some _ e, turn_list a _, ⟨_, Heap.get?_push_size _ rfl, rfl, rfl⟩, fun b hb => ?_, q⟩
    have e : b = s1.heap.objs.size := by simpa using hb
    subst e
    exact I1.fpOk (Nat.le_refl _) (I1.hok.fresh (Nat.le_refl _))
  · obtain ⟨its, rv, p, hz⟩ := I1.tuple hq
    refine wpAny_pyIter_tuple (show s1.heap.IsTuple a its.toArray from p) ?_
    refine ⟨s1.heap.objs.size, [s1.heap.objs.size], _, _, H1, rfl, I1.kept (t' := s1.toks) fun b o e => Heap.get?_push_of_some _ e, turn_tuple a _, ⟨_, Heap.get?_push_size _ rfl, rfl, rfl⟩, fun b hb => ?_, q⟩
    have e : b = s1.heap.objs.size := by simpa using hb
    subst e
    exact I1.fpOk (Nat.le_refl _) (I1.hok.fresh (Nat.le_refl _))
def rIxB (K : PySem.W.Frag) : R2 := fun x y H Q => ∃ p xs i v, x = .ref p ∧ y = .int i ∧ Sq K H p xs ∧ atI xs i = some v ∧ Q v H
theorem ix_both : IxR X (rIxB X.K) := by
  intro value slice pins s σ H x y v u Q I rx ry ⟨p, xs, i, z, e1, e2, hq, he, q⟩ hs
  rcases hq with hq | hq
  · exact ix_list value slice pins s σ H x y v u Q I rx ry ⟨p, xs, i, z, e1, e2, hq, he, q⟩ hs
  · exact ix_tup value slice pins s σ H x y v u Q I rx ry ⟨p, xs, i, z, e1, e2, hq, he, q⟩ hs
end
/-- f(e, .., k = v): the keyword-only parameter is named -/
theorem kbn1 {K : PySem.W.Frag} {x qual : Str} {params : Arguments} {body : List Stmt} {scope : Scope} {kws : List (Str × V)} {f : Addr} {fd : FuncData} {ps : List Str} {k : Str} (F : FunD K x qual params body scope [] kws f fd) (n : Nat)
    (h : ∀ (kV doc pm : Value) (an : Option Addr) (cdv ct : Value) (us : List Value) (w : Value), us.length = n → bindArgs (PySem.W.fnOf x qual params body scope .none kV doc pm an cdv ct) ⟨us, [(k, w)]⟩ = pure (ps.zip (us ++ [w]))) :
    KBn K fd ps n [k] (fun us ws => us ++ ws) (fun vs zs => vs ++ zs) := by
  obtain ⟨oc, od, dV, kV, doc, pm, an, cdv, ct, osl, rfl, lk, hcd, hD, hK⟩ := F.ex
  rcases hD with ⟨_, rfl⟩ | ⟨e, _⟩
  · refine ⟨fun s us ws X l1 l2 => ?_, fun r1 r2 => r1.append r2⟩
    match ws, l2 with
    | [w], _ => exact .of_eq (h kV doc pm an cdv ct us w l1)
  · exact absurd rfl e
end GB

/-! tables -/
namespace XT
open PySem PySem.Spec PyProof.Rows L2 KA KD PH PM RM K52b
abbrev sTable : Stmt := topS 14
abbrev sTI : Stmt := inClass sTable 0
abbrev sTA : Stmt := inClass sTable 2
theorem scTI : FnScope ["self", "entries", "low", "high", "amount"] ["self", "entries"] (defScope sTI) := ⟨rfl, rfl, rfl, by decide +kernel, rfl, by decide +kernel, by decide +kernel⟩
theorem scTA : FnScope ["self", "low", "high", "amounts", "amount", "start", "end"] ["self", "low", "high"] (defScope sTA) := ⟨rfl, rfl, rfl, by decide +kernel, rfl, by decide +kernel, by decide +kernel⟩
theorem pairs_get {H : Hp} : ∀ {xs : List V} {rs : List (Int × Int)} {i : Nat} {x : V}, PairsAt H xs rs → xs[i]? = some x → ∃ p r, x = .ref p ∧ rs[i]? = some r ∧ H p = some (.tup [.int r.1, .int r.2])
  | x :: xs, r :: rs, 0, y, ⟨⟨p, h1, h2⟩, _⟩, e => ⟨p, r, by rw [← h1]; exact (Option.some.inj e).symm, rfl, h2⟩
  | x :: xs, r :: rs, i + 1, y, ⟨_, h⟩, e => pairs_get (xs := xs) (rs := rs) (i := i) h e
  | [], [], _, _, _, e => by simp at e
  | [], _ :: _, _, _, h, _ => h.elim
  | _ :: _, [], _, _, h, _ => h.elim
def tri (e : Ent) : HO := .tup [.int e.1, .int e.2.1, .int e.2.2]
/-- a list's items are entries -/
def TripsAt (H : Hp) : List V → List Ent → Prop
  | [], [] => True
  | x :: xs, e :: es => (∃ p, x = .ref p ∧ H p = some (tri e)) ∧ TripsAt H xs es
  | _, _ => False
theorem TripsAt.length {H : Hp} : ∀ {xs : List V} {es : List Ent}, TripsAt H xs es → xs.length = es.length
  | [], [], _ => rfl
  | _ :: _, _ :: _, h => by simp [h.2.length]
  | [], _ :: _, h => h.elim
  | _ :: _, [], h => h.elim
theorem TripsAt.get {H : Hp} : ∀ {xs : List V} {es : List Ent} {i : Nat} {x : V}, TripsAt H xs es → xs[i]? = some x → ∃ p e, x = .ref p ∧ es[i]? = some e ∧ H p = some (tri e)
  | x :: xs, e :: es, 0, y, ⟨⟨p, h1, h2⟩, _⟩, k => ⟨p, e, by rw [← h1]; exact (Option.some.inj k).symm, rfl, h2⟩
  | x :: xs, e :: es, i + 1, y, ⟨_, h⟩, k => TripsAt.get (xs := xs) (es := es) (i := i) h k
  | [], [], _, _, _, k => by simp at k
  | [], _ :: _, _, _, h, _ => h.elim
  | _ :: _, [], _, _, h, _ => h.elim
theorem TripsAt.map {H H' : Hp} (k : ∀ p e, H p = some (tri e) → H' p = some (tri e)) : ∀ {xs : List V} {es : List Ent}, TripsAt H xs es → TripsAt H' xs es
  | [], [], _ => trivial
  | _ :: _, _ :: _, ⟨⟨p, h1, h2⟩, h⟩ => ⟨⟨p, h1, k p _ h2⟩, TripsAt.map k h⟩
  | [], _ :: _, h => h.elim
  | _ :: _, [], h => h.elim
theorem TripsAt.same {H H' : Hp} {xs : List V} {es : List Ent} (h : TripsAt H xs es) (s : Same H H') : TripsAt H' xs es := h.map fun p e q => s _ _ q
theorem TripsAt.but {H H' : Hp} {D : Addr} {acc : List V} {xs : List V} {es : List Ent} (h : TripsAt H xs es) (k : ∀ b o, b ≠ D → H b = some o → H' b = some o) (hD : H D = some (.lst acc)) : TripsAt H' xs es := h.map fun p e q => k p _ (fun z => by rw [z, hD] at q; cases q) q
theorem TripsAt.ch {H H' : Hp} {f : Addr} {xs : List V} {es : List Ent} (h : TripsAt H xs es) (c : Ch f H H') (fe : ∃ acc, H f = some (.lst acc)) : TripsAt H' xs es := h.map fun p e q => by
  obtain ⟨acc, ha⟩ := fe
  exact c _ _ (fun z => by rw [z, ha] at q; cases q) q
theorem TripsAt.app {H : Hp} : ∀ {xs ys : List V} {es fs : List Ent}, TripsAt H xs es → TripsAt H ys fs → TripsAt H (xs ++ ys) (es ++ fs)
  | [], _, [], _, _, g => g
  | _ :: _, _, _ :: _, _, ⟨h1, h⟩, g => ⟨h1, TripsAt.app h g⟩
  | [], _, _ :: _, _, h, _ => h.elim
  | _ :: _, _, [], _, h, _ => h.elim
theorem trips_one {H : Hp} {p : Addr} {e : Ent} (h : H p = some (tri e)) : TripsAt H [.ref p] [e] := ⟨⟨p, rfl, h⟩, trivial⟩
theorem TripsAt.rev {H : Hp} : ∀ {xs : List V} {es : List Ent}, TripsAt H xs es → TripsAt H xs.reverse es.reverse
  | [], [], _ => trivial
  | x :: xs, e :: es, ⟨⟨p, h1, h2⟩, h⟩ => by
    rw [List.reverse_cons, List.reverse_cons, h1]
    exact (TripsAt.rev h).app (trips_one h2)
  | [], _ :: _, h => h.elim
  | _ :: _, [], h => h.elim
/-- a table stands at x -/
def TabAt (H : Hp) (C x : Addr) (T : List Ent) : Prop := ∃ (dx t : Addr) (ys : List V), H x = some (.ins C dx [("entries", .ref t)]) ∧ H t = some (.tup ys) ∧ TripsAt H ys T
theorem TabAt.same {H H' : Hp} {C x : Addr} {T : List Ent} (h : TabAt H C x T) (s : Same H H') : TabAt H' C x T := by
  obtain ⟨dx, t, ys, h1, h2, h3⟩ := h
  exact ⟨dx, t, ys, s _ _ h1, s _ _ h2, h3.same s⟩
theorem TabAt.ch {H H' : Hp} {C x f : Addr} {T : List Ent} (h : TabAt H C x T) (c : Ch f H H') (fe : ∃ acc, H f = some (.lst acc)) : TabAt H' C x T := by
  obtain ⟨dx, t, ys, h1, h2, h3⟩ := h
  obtain ⟨acc, ha⟩ := id fe
  exact ⟨dx, t, ys, c _ _ (fun z => by rw [z, ha] at h1; cases h1) h1, c _ _ (fun z => by rw [z, ha] at h2; cases h2) h2, h3.ch c fe⟩
structure Tbl (K : PySem.W.Frag) (C : Addr) : Prop where
  cl : Cls K C
  nE : NoAttr K C "entries"
theorem hu_of {k : Nat} {A : Around} (r : Room k A) : A.units + 100 < cLine := by have := r.un; omega
section
variable {P : Program} {w : World} {K : PySem.W.Frag} {mg : Str → Option Value} {base : Heap} {C : Addr}
def spTI (K : PySem.W.Frag) (C : Addr) : Sp := fun vs H Q _ => ∃ (x c dx : Addr) (xs : List V) (T : List Ent), vs = [.ref x, .ref c] ∧ H x = some (.ins C dx []) ∧ Sq K H c xs ∧ TripsAt H xs T ∧ T.length ≤ 30000 ∧
  ∀ H', (∀ b o, b ≠ x → H b = some o → H' b = some o) → TabAt H' C x T → Q .non H'
theorem ok_TI {f : Addr} {fd : FuncData} {k : Nat} (F : Fun K "__init__" "Table.__init__" sTI f fd) (T : Tbl K C) (mt : mg "tuple" = none) : FnOk P w K mg base CX0 (k + 1) f fd ["self", "entries"] (spTI K C) := by
  refine F.ok scTI (fun vs H Q E h => ?_) (fun cdv A outer s H vs Q E hr h => ?_)
  · obtain ⟨x, c, dx, xs, T, rfl, _⟩ := h
    rfl
  · obtain ⟨x, c, dx, xs, es, rfl, hx, hc, tr, le, hq⟩ := h
    refine ⟨_, pss_one (ps_fld (pv 0) (pe_callTy call_tuple_of (by rfl) mt (by decide +kernel) (pa_cons (pe_lc (own := [("low", 2), ("high", 3), ("amount", 4)]) (g := gTup K 3 (gCons (gName 2) (gCons (gName 3) (gCons (gName 4) gNil)))) (tt := tYes) (te := tTup (tCons (tVar 2) (tCons (tVar 3) (tCons (tVar 4) tNil)))) rfl scTI.nd (GB.pi_both (pv 1)) (blkOk_by (own := [("low", 2), ("high", 3), ("amount", 4)]) (N := ["self", "entries", "low", "high", "amount"]) (sc := defScope sTI) (by decide +kernel))
        (fun _ _ _ _ _ => pg_tup rfl (pgs_cons (pg_name (i := 2) scTI.nd rfl (Or.inl rfl) (Or.inr rfl)) (pgs_cons (pg_name (i := 3) scTI.nd rfl (Or.inl rfl) (Or.inr rfl)) (pgs_cons (pg_name (i := 4) scTI.nd rfl (Or.inl rfl) (Or.inr rfl)) pgs_nil)))) (fun _ _ _ _ _ => pts_nil)
        (fun _ _ _ _ _ => pe_tup (pa_cons (pv 2) (pa_cons (pv 3) (pa_cons (pv 4) pa_nil))))) pa_nil)) rfl), ?_⟩
    have ll := tr.length
    rcases hc with hc | hc
    · refine ⟨.ref c, rfl, c, rfl, .inl ⟨⟨_, hc⟩, fun D nD => ?_⟩⟩
      refine lc_list (K := K) (a := c) (xs := xs) (fun i Hz => Same H Hz ∧ ∃ acc : List V, Hz D = some (.lst acc) ∧ TripsAt Hz acc (es.take i)) ⟨same_new nD, [], upd_same, trivial⟩ (fun i Hz _ z => z.1.seq hc) ?_ ?_
      · rintro i y Hz hy ⟨sz, acc, eD, ta⟩
        obtain ⟨p, e, rfl, ee, hp⟩ := tr.get hy
        have hi2 := (List.getElem?_eq_some_iff.mp hy).1
        refine ⟨p, _, rfl, SqT.of (sz _ _ hp), rfl, .int e.1, [.int e.2.1, .int e.2.2], rfl, .int e.2.1, [.int e.2.2], rfl, .int e.2.2, [], rfl, rfl, rfl, iteT (B := True) ?_⟩
        refine ⟨.int e.1, rfl, .int e.2.1, rfl, .int e.2.2, rfl, by show 3 ≤ sizeLine; decide, fun q nq => ?_⟩
        have sq := same_new (o := tri e) nq
        have la := ta.length
        rw [List.length_take] at la
        have eD2 := sq _ _ eD
        refine ⟨acc, eD2, Nat.lt_of_le_of_lt (show acc.length ≤ 30000 by omega) (by decide), same_again nD (sz.trans sq), acc ++ [.ref q], upd_same, ?_⟩
        rw [List.take_add_one, ee]
        exact ((ta.same sq).app (trips_one (e := e) upd_same)).but (fun b o n e => by rw [upd_ne n]; exact e) eD2
      rintro H1 ⟨s1, acc, eD, ta⟩
      rw [ll, List.take_length] at ta
      refine ⟨D, acc, rfl, .inl ⟨SqL.of eD, fun t nt => ?_⟩⟩
      have s2 := s1.trans (same_new (o := .tup acc) nt)
      have et := upd_same (H := H1) (a := t) (o := .tup acc)
      have ta2 := ta.same (same_new (o := .tup acc) nt)
      generalize upd H1 t (.tup acc) = H2 at s2 et ta2 ⊢
      have hx2 := s2 _ _ hx
      refine ⟨.ref x, rfl, x, C, dx, [], rfl, hx2, T.cl, T.nE, by decide, ?_⟩
      have keep : ∀ b o, b ≠ x → H2 b = some o → (upd H2 x (.ins C dx (putF "entries" (.ref t) []))) b = some o := fun b o nb e => by rw [upd_ne nb]; exact e
      refine hq _ (fun b o nb e => keep b o nb (s2 _ _ e)) ⟨dx, t, acc, ?_, ?_, ?_⟩
      · rw [upd_same]; rfl
      · exact keep _ _ (fun z => by rw [z, hx2] at et; cases et) et
      · exact ta2.map fun p e q => keep p _ (fun z => by rw [z, hx2] at q; cases q) q
    · refine ⟨.ref c, rfl, c, rfl, .inr ⟨⟨_, hc⟩, fun D nD => ?_⟩⟩
      refine lc_tup (K := K) (a := c) (xs := xs) (fun i Hz => Same H Hz ∧ ∃ acc : List V, Hz D = some (.lst acc) ∧ TripsAt Hz acc (es.take i)) ⟨same_new nD, [], upd_same, trivial⟩ (fun i Hz _ z => SqT_same z.1 hc) ?_ ?_
      · rintro i y Hz hy ⟨sz, acc, eD, ta⟩
        obtain ⟨p, e, rfl, ee, hp⟩ := tr.get hy
        have hi2 := (List.getElem?_eq_some_iff.mp hy).1
        refine ⟨p, _, rfl, SqT.of (sz _ _ hp), rfl, .int e.1, [.int e.2.1, .int e.2.2], rfl, .int e.2.1, [.int e.2.2], rfl, .int e.2.2, [], rfl, rfl, rfl, iteT (B := True) ?_⟩
        refine ⟨.int e.1, rfl, .int e.2.1, rfl, .int e.2.2, rfl, by show 3 ≤ sizeLine; decide, fun q nq => ?_⟩
        have sq := same_new (o := tri e) nq
        have la := ta.length
        rw [List.length_take] at la
        have eD2 := sq _ _ eD
        refine ⟨acc, eD2, Nat.lt_of_le_of_lt (show acc.length ≤ 30000 by omega) (by decide), same_again nD (sz.trans sq), acc ++ [.ref q], upd_same, ?_⟩
        rw [List.take_add_one, ee]
        exact ((ta.same sq).app (trips_one (e := e) upd_same)).but (fun b o n e => by rw [upd_ne n]; exact e) eD2
      rintro H1 ⟨s1, acc, eD, ta⟩
      rw [ll, List.take_length] at ta
      refine ⟨D, acc, rfl, .inl ⟨SqL.of eD, fun t nt => ?_⟩⟩
      have s2 := s1.trans (same_new (o := .tup acc) nt)
      have et := upd_same (H := H1) (a := t) (o := .tup acc)
      have ta2 := ta.same (same_new (o := .tup acc) nt)
      generalize upd H1 t (.tup acc) = H2 at s2 et ta2 ⊢
      have hx2 := s2 _ _ hx
      refine ⟨.ref x, rfl, x, C, dx, [], rfl, hx2, T.cl, T.nE, by decide, ?_⟩
      have keep : ∀ b o, b ≠ x → H2 b = some o → (upd H2 x (.ins C dx (putF "entries" (.ref t) []))) b = some o := fun b o nb e => by rw [upd_ne nb]; exact e
      refine hq _ (fun b o nb e => keep b o nb (s2 _ _ e)) ⟨dx, t, acc, ?_, ?_, ?_⟩
      · rw [upd_same]; rfl
      · exact keep _ _ (fun z => by rw [z, hx2] at et; cases et) et
      · exact ta2.map fun p e q => keep p _ (fun z => by rw [z, hx2] at q; cases q) q
def spTA (C : Addr) : Sp := fun vs H Q _ => ∃ (x : Addr) (T : List Ent) (lo hi : Int), vs = [.ref x, .int lo, .int hi] ∧ TabAt H C x T ∧ T.length ≤ 500 ∧ ∀ H', Same H H' → Q (.int (amt T lo hi)) H'
theorem amts_take {T : List Ent} {lo hi : Int} {i : Nat} {e : Ent} (h : T[i]? = some e) : amts (T.take (i + 1)) lo hi = amts (T.take i) lo hi ++ (if has lo hi e = true then [e.2.2] else []) := by
  unfold amts
  rw [List.take_add_one, h]
  show List.map _ (List.filter _ (T.take i ++ [e])) = _
  rw [List.filter_append, List.map_append]
  congr 1
  cases k : has lo hi e <;> simp [List.filter, k]
theorem amts_len (T : List Ent) (lo hi : Int) : (amts T lo hi).length ≤ T.length := by
  unfold amts
  rw [List.length_map]
  exact List.length_filter_le _ _
theorem ok_TA {f : Addr} {fd : FuncData} {k : Nat} (F : Fun K "amount" "Table.amount" sTA f fd) (T : Tbl K C) (mm : mg "max" = none) :
    FnOk P w K mg base CX0 (k + 1) f fd ["self", "low", "high"] (spTA C) := by
  refine F.ok scTA (fun vs H Q E h => ?_) (fun cdv A outer s H vs Q E hr h => ?_)
  · obtain ⟨x, T, lo, hi, rfl, _⟩ := h
    rfl
  · obtain ⟨x, es, lo, hi, rfl, ⟨dx, t, ys, hx, ht, tr⟩, le, hq⟩ := h
    refine ⟨_, pss_cons (ps_setLc (i := 3) (own := [("amount", 4), ("start", 5), ("end", 6)]) (g := gTup K 3 (gCons (gName 5) (gCons (gName 6) (gCons (gName 4) gNil)))) (te := tVar 4) rfl scTA.nd rfl rfl (sw_true rfl rfl rfl (by decide +kernel)) (pi_tup (pe_fld (pv 0) rfl))
        (blkOk_by (own := [("amount", 4), ("start", 5), ("end", 6)]) (N := ["self", "low", "high", "amounts", "amount", "start", "end"]) (sc := defScope sTA) (by decide +kernel))
        (fun _ _ _ _ _ => pg_tup rfl (pgs_cons (pg_name (i := 5) scTA.nd rfl (Or.inl rfl) (Or.inr rfl)) (pgs_cons (pg_name (i := 6) scTA.nd rfl (Or.inl rfl) (Or.inr rfl)) (pgs_cons (pg_name (i := 4) scTA.nd rfl (Or.inl rfl) (Or.inr rfl)) pgs_nil))))
        (fun _ _ _ _ _ => pts_one (PW.pt (pw_and (pt_cmpR op_le (pv 1) (pv 5) (nomark _)) (pw_and1 (pt_cmpR op_le (pv 6) (pv 2) (nomark _))))))
        (fun _ _ _ _ _ => pv 4))
      (pss_one (ps_ret (pe_callBK (GM.cr_maxD rfl (hu_of hr)) (by rfl) mm (by decide +kernel) (pa_cons (pv 3) pa_nil) (pk_cons pe_int pk_nil)))), ?_⟩
    have ll := tr.length
    refine ⟨.ref x, rfl, x, C, dx, _, .ref t, rfl, hx, T.cl, T.nE, rfl, t, rfl, ⟨_, SqT.of ht⟩, fun D nD => ?_⟩
    refine lc_tup (K := K) (a := t) (xs := ys) (fun i Hz => Same H Hz ∧ Hz D = some (.lst ((amts (es.take i) lo hi).map V.int))) ⟨same_new nD, upd_same⟩ (fun i Hz _ z => SqT.of (z.1 _ _ ht)) ?_ ?_
    · rintro i y Hz hy ⟨sz, eD⟩
      obtain ⟨p, e, rfl, ee, hp⟩ := tr.get hy
      have l2 : 2 ≤ sizeLine := by decide
      refine ⟨p, _, rfl, SqT.of (sz _ _ hp), rfl, .int e.1, [.int e.2.1, .int e.2.2], rfl, .int e.2.1, [.int e.2.2], rfl, .int e.2.2, [], rfl, rfl, rfl, ?_⟩
      have st := amts_take (lo := lo) (hi := hi) ee
      have la := amts_len (es.take i) lo hi
      rw [List.length_take] at la
      have eh : has lo hi e = (decide (lo ≤ e.1) && decide (e.2.1 ≤ hi)) := rfl
      refine ⟨.int lo, rfl, .int e.1, rfl, lo, e.1, rfl, rfl, _, rfl, ?_⟩
      have yes : has lo hi e = true → Hz D = some (.lst ((amts (es.take i) lo hi).map V.int)) → True := fun _ _ => trivial
      by_cases c1 : lo ≤ e.1
      · rw [decide_eq_true c1, Bool.true_and] at eh
        rw [decide_eq_true c1]
        refine iteT ⟨.int e.2.1, rfl, .int hi, rfl, e.2.1, hi, rfl, rfl, _, rfl, ?_⟩
        rw [← eh]
        cases k : has lo hi e with
        | true =>
          rw [k, if_pos rfl] at st
          refine iteT ⟨.int e.2.2, rfl, _, eD, ?_, same_again nD sz, ?_⟩
          · rw [List.length_map]; exact Nat.lt_of_le_of_lt (show _ ≤ 3000 by omega) (by decide)
          · rw [upd_same, st, List.map_append]; rfl
        | false =>
          rw [k, if_neg (by simp), List.append_nil] at st
          exact iteF ⟨sz, by rw [st]; exact eD⟩
      · rw [decide_eq_false c1, Bool.false_and] at eh
        rw [decide_eq_false c1]
        rw [eh, if_neg (by simp), List.append_nil] at st
        refine iteF ?_
        refine iteF ?_
        exact ⟨sz, by rw [st]; exact eD⟩
    rintro H1 ⟨s1, eD⟩
    rw [ll, List.take_length] at eD
    refine ⟨.ref D, rfl, D, amts es lo hi, 0, rfl, rfl, SqL.of eD, ?_⟩
    have et : GM.topD 0 (amts es lo hi) = amt es lo hi := by unfold amt; cases amts es lo hi <;> rfl
    rw [et]
    exact hq _ s1
end
end XT

/-! drawn entries -/
namespace XU
open PySem PySem.Spec PyProof.Rows L2 KA KD PH PM RM K52b XT
abbrev sIv : Stmt := topS 20
abbrev sEn : Stmt := topS 21
theorem scIv : FnScope ["feed", "most", "low"] ["feed", "most"] (defScope sIv) := ⟨rfl, rfl, rfl, by decide +kernel, rfl, by decide +kernel, by decide +kernel⟩
theorem scEn : FnScope ["feed", "most", "found", "turn", "low", "high"] ["feed", "most"] (defScope sEn) := ⟨rfl, rfl, rfl, by decide +kernel, rfl, by decide +kernel, by decide +kernel⟩
theorem cutv_to (xs : List V) (j : Nat) : cutV xs none (some (j : Int)) = xs.take j := by
  unfold cutV
  rw [HT.sIx_nat xs.length xs.length j, HT.sIx_none]
  rw [List.drop_zero, Nat.sub_zero]
  by_cases h : j ≤ xs.length
  · rw [Nat.min_eq_left h]
  · rw [Nat.min_eq_right (by omega), List.take_length, List.take_of_length_le (by omega)]
theorem cutv_from (xs : List V) (j : Nat) : cutV xs (some (j : Int)) none = xs.drop j := by
  unfold cutV
  rw [HT.sIx_nat xs.length 0 j, HT.sIx_none]
  by_cases h : j ≤ xs.length
  · rw [Nat.min_eq_left h, List.take_of_length_le (by rw [List.length_drop]; exact Nat.le_refl _)]
  · rw [Nat.min_eq_right (by omega), Nat.sub_self, List.take_zero, List.drop_of_length_le (by omega)]
theorem fe_lst {H : Hp} {f : Addr} (fe : FeedAt H f) : ∃ acc, H f = some (.lst acc) := by
  obtain ⟨d, st, _, _, _, e⟩ := fe
  exact ⟨_, e⟩
theorem ch_tup {f t : Addr} {H H' : Hp} {xs : List V} (c : Ch f H H') (fe : FeedAt H f) (h : H t = some (.tup xs)) : H' t = some (.tup xs) := by
  refine c _ _ (fun z => ?_) h
  obtain ⟨acc, e⟩ := fe_lst fe
  rw [z, e] at h
  cases h
/-! data of entries -/
def dTrips (es : List Ent) : List PyData := es.map fun e => .tuple [.int e.1, .int e.2.1, .int e.2.2]
theorem dp_trips {K : PySem.W.Frag} {H : Hp} : ∀ {xs : List V} {es : List Ent}, TripsAt H xs es → DpAll K H xs (dTrips es)
  | [], [], _ => .nil
  | x :: xs, e :: es, ⟨⟨p, h1, h2⟩, h3⟩ => by
    subst h1
    exact .cons (.tup (SqT.of h2) (.cons (.int _) (.cons (.int _) (.cons (.int _) .nil)))) (dp_trips h3)
  | [], _ :: _, h => h.elim
  | _ :: _, [], h => h.elim
theorem lay_trips : ∀ es : List Ent, PyData.canLayAll0 (dTrips es) = true
  | [] => rfl
  | e :: es => by
    show (PyData.canLay0 (.tuple [.int e.1, .int e.2.1, .int e.2.2]) && PyData.canLayAll0 (dTrips es)) = true
    rw [lay_trips es]
    simp only [PyData.canLay0, PyData.canLayAll0, Bool.and_true]
theorem depth_trips : ∀ es : List Ent, PyData.depthAll (dTrips es) ≤ 3
  | [] => Nat.zero_le _
  | e :: es => by
    have h := depth_trips es
    show max (PyData.depth (.tuple [.int e.1, .int e.2.1, .int e.2.2])) (PyData.depthAll (dTrips es)) ≤ 3
    simp only [PyData.depth, PyData.depthAll]
    omega
theorem shaped_trips (es : List Ent) : SeqAt.shaped (.list (dTrips es)) = true :=
  shaped_of (by simp only [PyData.canLay0, lay_trips]) (by have := depth_trips es; simp only [PyData.depth]; omega)
theorem ev_trips (es : List Ent) : PyData.eqv (.list (dTrips es)) (.list (dInts [])) = decide (es = []) := by
  cases es with
  | nil => rfl
  | cons e es => rfl
section
variable {P : Program} {w : World} {K : PySem.W.Frag} {mg : Str → Option Value} {base : Heap}
def spIv : Sp := fun vs H Q _ => ∃ (f : Addr) (m : Int), vs = [.ref f, .int m] ∧ 0 < m ∧ m ≤ 1000 ∧ FeedAt H f ∧ ∀ H' p lo hi, Ch f H H' → FeedAt H' f → H p = none → H' p = some (.tup [.int lo, .int hi]) → lo < hi → 0 ≤ lo → hi ≤ m → Q (.ref p) H'
theorem ok_iv {f0 fT : Addr} {fd dT : FuncData} {k : Nat} (F : Fun K "_law_interval" "_law_interval" sIv f0 fd) (GT : FnOk P w K mg base CX0 (k + 1) fT dT ["feed", "many"] spTake) (gT : mg "_law_take" = some (.ref fT)) (kT : PySem.W.keepIn K (.ref fT) = true) (bT : Binds K dT ["feed", "many"] []) :
    FnOk P w K mg base CX0 (k + 2) f0 fd ["feed", "most"] spIv := by
  refine F.ok scIv (fun vs H Q E h => ?_) (fun cdv A outer s H vs Q E hr h => ?_)
  · obtain ⟨f, m, rfl, _⟩ := h
    rfl
  · obtain ⟨f, m, rfl, m0, m1, fe, hq⟩ := h
    refine ⟨_, pss_cons (ps_set (i := 2) scIv.nd rfl (.inl rfl) (pe_call GT hr (by rfl) gT kT bT .nil pass0 (pa_cons (pv 0) (pa_cons (pv 1) pa_nil))))
      (pss_one (ps_ret (pe_tup (pa_cons (pv 2) (pa_cons (pe_op op_add (pe_op op_add (pv 2) pe_int) (pe_call GT hr (by rfl) gT kT bT .nil pass0 (pa_cons (pv 0) (pa_cons (pe_op op_sub (pv 1) (pv 2)) pa_nil)))) pa_nil))))), ?_⟩
    refine ⟨.ref f, rfl, .int m, rfl, f, m, rfl, m0, by omega, fe, fun H1 x c1 fe1 g0 g1 => ?_⟩
    refine ⟨.int x, rfl, .int x, rfl, x, 1, rfl, rfl, .ref f, rfl, .int m, rfl, .int x, rfl, m, x, rfl, rfl, f, m - x, rfl, by omega, by omega, fe1, fun H2 y c2 fe2 g2 g3 => ?_⟩
    refine ⟨x + 1, y, rfl, rfl, by show 2 ≤ sizeLine; decide, fun p np => ?_⟩
    have sp := same_new (o := .tup [.int x, .int (x + 1 + y)]) np
    have c := c1.trans c2
    exact hq _ p x (x + 1 + y) (c.trans (Ch.of_same sp)) (fe2.same sp) (c.free (fe2.ne np) np) upd_same (by omega) (by omega) (by omega)
def Bnd (es : List Ent) : Prop := ∀ e ∈ es, 0 ≤ e.1 ∧ e.2.1 ≤ 1000 ∧ e.2.2 ≤ 1000000
theorem Bnd.app {es : List Ent} (h : Bnd es) {e : Ent} (g : 0 ≤ e.1 ∧ e.2.1 ≤ 1000 ∧ e.2.2 ≤ 1000000) : Bnd (es ++ [e]) := fun x hx => (List.mem_append.mp hx).elim (h x) fun z => by rw [List.mem_singleton.mp z]; exact g
def spEn (K : PySem.W.Frag) : Sp := fun vs H Q _ => ∃ (f : Addr) (m : Int), vs = [.ref f, .int m] ∧ 0 < m ∧ m ≤ 1000 ∧ FeedAt H f ∧ ∀ H' c xs es, Ch f H H' → FeedAt H' f → H' c = some (.lst xs) → c ≠ f → H c = none → TripsAt H' xs es → Good es → Bnd es → es.length ≤ 6 → Q (.ref c) H'
/-- what the loop keeps -/
structure En (H : Hp) (f c : Addr) (xs : List V) (es : List Ent) (Hz : Hp) : Prop where
  ch : Ch f H Hz
  fe : FeedAt Hz f
  hc : Hz c = some (.lst xs)
  tr : TripsAt Hz xs es
  g : Good es
  b : Bnd es
theorem En.go {H : Hp} {f c : Addr} {xs : List V} {es : List Ent} {H1 H2 : Hp} (g : En H f c xs es H1) (n : c ≠ f) (k : Ch f H1 H2) (fe : FeedAt H2 f) : En H f c xs es H2 :=
  ⟨g.ch.trans k, fe, k _ _ n g.hc, g.tr.ch k (fe_lst g.fe), g.g, g.b⟩
theorem En.same {H : Hp} {f c : Addr} {xs : List V} {es : List Ent} {H1 H2 : Hp} (g : En H f c xs es H1) (n : c ≠ f) (s : Same H1 H2) : En H f c xs es H2 := g.go n (Ch.of_same s) (g.fe.same s)
theorem ok_en {f0 fT fI fP : Addr} {fd dT dI dP : FuncData} {k : Nat} (F : Fun K "_law_entries" "_law_entries" sEn f0 fd) (GT : FnOk P w K mg base CX0 (k + 1) fT dT ["feed", "many"] spTake) (gT : mg "_law_take" = some (.ref fT)) (kT : PySem.W.keepIn K (.ref fT) = true) (bT : Binds K dT ["feed", "many"] [])
    (GI : FnOk P w K mg base CX0 (k + 2) fI dI ["feed", "most"] spIv) (gI : mg "_law_interval" = some (.ref fI)) (kI : PySem.W.keepIn K (.ref fI) = true) (bI : Binds K dI ["feed", "most"] [])
    (GP : FnOk P w K mg base CX0 (k + 2) fP dP ["feed", "some"] (spPick K)) (gP : mg "_law_pick" = some (.ref fP)) (kP : PySem.W.keepIn K (.ref fP) = true) (bP : Binds K dP ["feed", "some"] []) (mr : mg "range" = none) :
    FnOk P w K mg base CX0 (k + 3) f0 fd ["feed", "most"] (spEn K) := by
  refine F.ok scEn (fun vs H Q E h => ?_) (fun cdv A outer s H vs Q E hr h => ?_)
  · obtain ⟨f, m, rfl, _⟩ := h
    rfl
  · obtain ⟨f, m, rfl, m0, m1, fe, hq⟩ := h
    have h1 := hr.mono (show k + 1 ≤ k + 2 by omega)
    refine ⟨_, pss_cons (ps_set (i := 2) scEn.nd rfl (.inl rfl) (pe_lst pa_nil))
      (pss_cons (ps_for PassesOwn.never rfl (pi_range1 rfl mr (pa_cons (pe_call GT h1 (by rfl) gT kT bT .nil pass0 (pa_cons (pv 0) (pa_cons pe_int pa_nil))) pa_nil)) (pg_name (i := 3) scEn.nd rfl (.inl rfl))
        (pss_cons (ps_asg (pe_call GI hr (by rfl) gI kI bI .nil pass0 (pa_cons (pv 0) (pa_cons (pv 1) pa_nil))) (pg_tup rfl (pgs_cons (pg_name (i := 4) scEn.nd rfl (.inl rfl)) (pgs_cons (pg_name (i := 5) scEn.nd rfl (.inl rfl)) pgs_nil))))
        (pss_cons (ps_if (PW.pt (pw_and (pt_cmpR (op_neD hr.units) (pv 2) (pe_lst pa_nil) (nomark _)) (pw_and1 (pt_cmpR op_eq (pe_call GT h1 (by rfl) gT kT bT .nil pass0 (pa_cons (pv 0) (pa_cons pe_int pa_nil))) pe_int (nomark _)))))
          (pss_one (ps_asg (pe_slice sl_tup (pe_ix ix_list (pv 2) (pe_un un_neg pe_int) (fun _ _ => rfl)) po_none (po_some pe_int)) (pg_tup rfl (pgs_cons (pg_name (i := 4) scEn.nd rfl (.inl rfl)) (pgs_cons (pg_name (i := 5) scEn.nd rfl (.inl rfl)) pgs_nil))))) pss_nil)
        (pss_one (ps_expr (pe_bm PySem.F.plainAttrs_list PySem.F.slot_list_append PySem.F.type_list_append mt_append (pv 2) (pa_cons (pe_tup (pa_cons (pv 4) (pa_cons (pv 5) (pa_cons (pe_call GP hr (by rfl) gP kP bP .nil pass0 (pa_cons (pv 0) (pa_cons (pe_lst (pa_cons pe_int (pa_cons pe_int (pa_cons pe_int (pa_cons pe_int (pa_cons (pe_op op_pow pe_int pe_int) (pa_cons (pe_call GT h1 (by rfl) gT kT bT .nil pass0 (pa_cons (pv 0) (pa_cons pe_int pa_nil))) pa_nil))))))) pa_nil))) pa_nil)))) pa_nil)))))))
      (pss_one (ps_ret (pv 2)))), ?_⟩
    refine ⟨Nat.zero_le _, fun c nc => ?_⟩
    have sc := same_new (o := .lst []) nc
    have ncf := fe.ne nc
    have ec := upd_same (H := H) (a := c) (o := .lst [])
    have g0 : En H f c [] [] (upd H c (.lst [])) := ⟨Ch.of_same sc, fe.same sc, ec, trivial, fun e he => (List.not_mem_nil he).elim, fun e he => (List.not_mem_nil he).elim⟩
    generalize upd H c (.lst []) = H0 at g0 ⊢
    clear sc ec
    refine ⟨.ref f, rfl, f, 7, rfl, by decide, by decide, g0.fe, fun H1 n c1 fe1 n0 n7 => ?_⟩
    have g1 := g0.go ncf c1 fe1
    refine ⟨n, rfl, by omega, by omega, for_range (lo := 0) (n := n.toNat) (fun i σ Hz => ∃ xs es, En H f c xs es Hz ∧ es.length = i ∧ ∃ r3 r4 r5 : Option V, σ = [some (.ref f), some (.int m), some (.ref c), r3, r4, r5]) ⟨[], [], g1, rfl, none, none, none, rfl⟩ ?_ ?_⟩
    · clear g0 g1 c1 fe1
      rintro i σ Hz hi ⟨xs, es, g, le, r3, r4, r5, rfl⟩
      have lx := g.tr.length
      refine ⟨.ref f, rfl, .int m, rfl, f, m, rfl, m0, m1, g.fe, fun H2 p lo hi c2 fe2 np ep lh l0 lm => ?_⟩
      have g2 := g.go ncf c2 fe2
      refine ⟨p, _, rfl, SqT.of ep, rfl, .int lo, [.int hi], rfl, .int hi, [], rfl, rfl, ?_⟩
      refine ⟨.ref c, rfl, Nat.zero_le _, fun e1 ne1 => ?_⟩
      have s3 := same_new (o := .lst []) ne1
      have g3 := g2.same ncf s3
      refine ⟨.list (dTrips es), .list (dInts []), .lst (SqL.of g3.hc) (dp_trips g3.tr), .lst (SqL.of upd_same) (dp_ints []), shaped_trips es, shaped_lst [], _, rfl, ?_⟩
      rw [ev_trips]
      generalize upd H2 e1 (.lst []) = H3 at g3 ⊢
      by_cases he : es = []
      · rw [decide_eq_true he]
        refine iteF (iteF ?_)
        refine ⟨.ref c, rfl, .inl ⟨rfl, _, SqL.of g3.hc⟩, .int lo, rfl, .int hi, rfl, .ref f, rfl, 10, 6, rfl, rfl, ⟨by decide, by decide, by decide⟩, .ref f, rfl, f, 50, rfl, by decide, by decide, g3.fe, fun H4 t c4 fe4 t0 t1 => ⟨by show 6 ≤ sizeLine; decide, fun l nl => ?_⟩⟩
        have g4 := g3.go ncf c4 fe4
        have sl := same_new (o := .lst [.int 0, .int 1, .int 2, .int 5, .int (10 ^ (6 : Int).toNat), .int t]) nl
        have g5 := g4.same ncf sl
        refine ⟨f, l, _, rfl, g4.fe.ne nl, SqL.of upd_same, by show 0 < 6; decide, by show 6 ≤ 1000; decide, g5.fe, fun H6 j v hv c6 fe6 => ?_⟩
        obtain ⟨am, rfl, a0, a1⟩ : ∃ am : Int, v = .int am ∧ 0 ≤ am ∧ am ≤ 1000000 := by
          match j, hv with
          | 0, hv => exact ⟨0, (Option.some.inj hv).symm, by decide, by decide⟩
          | 1, hv => exact ⟨1, (Option.some.inj hv).symm, by decide, by decide⟩
          | 2, hv => exact ⟨2, (Option.some.inj hv).symm, by decide, by decide⟩
          | 3, hv => exact ⟨5, (Option.some.inj hv).symm, by decide, by decide⟩
          | 4, hv => exact ⟨_, (Option.some.inj hv).symm, by decide, by decide⟩
          | 5, hv => exact ⟨t, (Option.some.inj hv).symm, t0, by omega⟩
          | n + 6, hv => simp at hv
        have g6 := g5.go ncf c6 fe6
        refine ⟨by show 3 ≤ sizeLine; decide, fun q nq => ?_⟩
        have sq := same_new (o := tri (lo, hi, am)) nq
        have g7 := g6.same ncf sq
        refine ⟨c, xs, _, rfl, rfl, g7.hc, Nat.lt_of_le_of_lt (show xs.length ≤ 3000 by omega) (by decide), ?_⟩
        exact ⟨xs ++ [.ref q], es ++ [(lo, hi, am)], ⟨Ch.again nc g7.ch, g7.fe.upd ncf, upd_same, (g7.tr.app (trips_one (e := (lo, hi, am)) upd_same)).but (fun b o n e => by rw [upd_ne n]; exact e) g7.hc, g.g.app (good_one ⟨lh, a0⟩), g.b.app (e := (lo, hi, am)) ⟨l0, show hi ≤ 1000 by omega, a1⟩⟩, by rw [List.length_append]; show es.length + 1 = _; omega, _, _, _, rfl⟩
      · rw [decide_eq_false he]
        refine iteT ⟨.ref f, rfl, f, 4, rfl, by decide, by decide, g3.fe, fun H5 t c5 fe5 t0 t4 => ⟨rfl, _, rfl, ?_⟩⟩
        have g8 := g3.go ncf c5 fe5
        refine ite2 (fun _ => ?_) (fun _ => ?_)
        · rcases List.eq_nil_or_concat xs with e | ⟨ys, v, e⟩
          · subst e
            exact absurd (List.length_eq_zero_iff.mp (show es.length = 0 by simpa using lx.symm)) he
          rw [List.concat_eq_append] at e
          obtain ⟨p2, en, rfl, ee, hp2⟩ := g8.tr.get (i := ys.length) (x := v) (by rw [e]; simp)
          have ge := g8.g en (List.mem_of_getElem? ee)
          have gb := g8.b en (List.mem_of_getElem? ee)
          refine ⟨.ref c, rfl, 1, rfl, c, _, -1, .ref p2, rfl, rfl, SqL.of g8.hc, by rw [e]; exact atI_last _ _, 2, rfl, p2, _, rfl, SqT.of hp2, (by show ¬(HT.sIx 3 0 none = 0 ∧ HT.sIx 3 3 (some 2) = 3); decide), fun p3 np3 => ?_⟩
          rw [show (some (2 : Int)) = some ((2 : Nat) : Int) from rfl, cutv_to]
          have s9 := same_new (o := .tup [.int en.1, .int en.2.1]) np3
          have g9 := g8.same ncf s9
          refine ⟨p3, [.int en.1, .int en.2.1], rfl, SqT.of upd_same, rfl, .int en.1, [.int en.2.1], rfl, .int en.2.1, [], rfl, rfl, ?_⟩
          refine ⟨.ref c, rfl, .inl ⟨rfl, _, SqL.of g9.hc⟩, .int en.1, rfl, .int en.2.1, rfl, .ref f, rfl, 10, 6, rfl, rfl, ⟨by decide, by decide, by decide⟩, .ref f, rfl, f, 50, rfl, by decide, by decide, g9.fe, fun H4 t c4 fe4 t0 t1 => ⟨by show 6 ≤ sizeLine; decide, fun l nl => ?_⟩⟩
          have g4 := g9.go ncf c4 fe4
          have sl := same_new (o := .lst [.int 0, .int 1, .int 2, .int 5, .int (10 ^ (6 : Int).toNat), .int t]) nl
          have g5 := g4.same ncf sl
          refine ⟨f, l, _, rfl, g4.fe.ne nl, SqL.of upd_same, by show 0 < 6; decide, by show 6 ≤ 1000; decide, g5.fe, fun H6 j v hv c6 fe6 => ?_⟩
          obtain ⟨am, rfl, a0, a1⟩ : ∃ am : Int, v = .int am ∧ 0 ≤ am ∧ am ≤ 1000000 := by
            match j, hv with
            | 0, hv => exact ⟨0, (Option.some.inj hv).symm, by decide, by decide⟩
            | 1, hv => exact ⟨1, (Option.some.inj hv).symm, by decide, by decide⟩
            | 2, hv => exact ⟨2, (Option.some.inj hv).symm, by decide, by decide⟩
            | 3, hv => exact ⟨5, (Option.some.inj hv).symm, by decide, by decide⟩
            | 4, hv => exact ⟨_, (Option.some.inj hv).symm, by decide, by decide⟩
            | 5, hv => exact ⟨t, (Option.some.inj hv).symm, t0, by omega⟩
            | n + 6, hv => simp at hv
          have g6 := g5.go ncf c6 fe6
          refine ⟨by show 3 ≤ sizeLine; decide, fun q nq => ?_⟩
          have sq := same_new (o := tri (en.1, en.2.1, am)) nq
          have g7 := g6.same ncf sq
          refine ⟨c, xs, _, rfl, rfl, g7.hc, Nat.lt_of_le_of_lt (show xs.length ≤ 3000 by omega) (by decide), ?_⟩
          exact ⟨xs ++ [.ref q], es ++ [(en.1, en.2.1, am)], ⟨Ch.again nc g7.ch, g7.fe.upd ncf, upd_same, (g7.tr.app (trips_one (e := (en.1, en.2.1, am)) upd_same)).but (fun b o n e => by rw [upd_ne n]; exact e) g7.hc, g.g.app (good_one ⟨ge.1, a0⟩), g.b.app (e := (en.1, en.2.1, am)) ⟨gb.1, gb.2.1, a1⟩⟩, by rw [List.length_append]; show es.length + 1 = _; omega, _, _, _, rfl⟩
        · skip
          refine ⟨.ref c, rfl, .inl ⟨rfl, _, SqL.of g8.hc⟩, .int lo, rfl, .int hi, rfl, .ref f, rfl, 10, 6, rfl, rfl, ⟨by decide, by decide, by decide⟩, .ref f, rfl, f, 50, rfl, by decide, by decide, g8.fe, fun H4 t c4 fe4 t0 t1 => ⟨by show 6 ≤ sizeLine; decide, fun l nl => ?_⟩⟩
          have g4 := g8.go ncf c4 fe4
          have sl := same_new (o := .lst [.int 0, .int 1, .int 2, .int 5, .int (10 ^ (6 : Int).toNat), .int t]) nl
          have g5 := g4.same ncf sl
          refine ⟨f, l, _, rfl, g4.fe.ne nl, SqL.of upd_same, by show 0 < 6; decide, by show 6 ≤ 1000; decide, g5.fe, fun H6 j v hv c6 fe6 => ?_⟩
          obtain ⟨am, rfl, a0, a1⟩ : ∃ am : Int, v = .int am ∧ 0 ≤ am ∧ am ≤ 1000000 := by
            match j, hv with
            | 0, hv => exact ⟨0, (Option.some.inj hv).symm, by decide, by decide⟩
            | 1, hv => exact ⟨1, (Option.some.inj hv).symm, by decide, by decide⟩
            | 2, hv => exact ⟨2, (Option.some.inj hv).symm, by decide, by decide⟩
            | 3, hv => exact ⟨5, (Option.some.inj hv).symm, by decide, by decide⟩
            | 4, hv => exact ⟨_, (Option.some.inj hv).symm, by decide, by decide⟩
            | 5, hv => exact ⟨t, (Option.some.inj hv).symm, t0, by omega⟩
            | n + 6, hv => simp at hv
          have g6 := g5.go ncf c6 fe6
          refine ⟨by show 3 ≤ sizeLine; decide, fun q nq => ?_⟩
          have sq := same_new (o := tri (lo, hi, am)) nq
          have g7 := g6.same ncf sq
          refine ⟨c, xs, _, rfl, rfl, g7.hc, Nat.lt_of_le_of_lt (show xs.length ≤ 3000 by omega) (by decide), ?_⟩
          exact ⟨xs ++ [.ref q], es ++ [(lo, hi, am)], ⟨Ch.again nc g7.ch, g7.fe.upd ncf, upd_same, (g7.tr.app (trips_one (e := (lo, hi, am)) upd_same)).but (fun b o n e => by rw [upd_ne n]; exact e) g7.hc, g.g.app (good_one ⟨lh, a0⟩), g.b.app (e := (lo, hi, am)) ⟨l0, show hi ≤ 1000 by omega, a1⟩⟩, by rw [List.length_append]; show es.length + 1 = _; omega, _, _, _, rfl⟩
    rintro σ H9 ⟨xs, es, g, le, r3, r4, r5, rfl⟩
    exact ⟨.ref c, rfl, hq _ c xs es g.ch g.fe g.hc ncf nc g.tr g.g g.b (by omega)⟩
end
end XU

/-! texts of ints -/
namespace WN
open PySem PySem.Spec PyProof.Rows L2 KA PH PM RM
theorem len_app (x y : Str) : (x ++ y).length = x.length + y.length := by
  show (x.cps ++ y.cps).size = _
  rw [Array.size_append]
  rfl
/-- the text of an int -/
def ti (i : Int) : Str := toString i
theorem ti_len {i : Int} (h : i.natAbs < 2 ^ 39) : (ti i).length ≤ 13 := by
  have := PySem.int_text_length_le10 (a := i) (k := 12) (by decide) (Nat.lt_trans h (by decide))
  have e : (ti i).length = (toString i).length := PySem.ofString_length _
  omega
theorem ti_log {i : Int} (h : i.natAbs < 2 ^ 39) : i.natAbs.log2 < 1920 := Nat.lt_of_lt_of_le (KG.small_log (by decide) h) (by decide)
def txC (r : Int × Int) : Str := ((Str.empty ++ ti r.1) ++ ":") ++ ti r.2
theorem col_len : ((":" : Str)).length = 1 := by decide +kernel
theorem txC_len {r : Int × Int} (h : r.1.natAbs < 2 ^ 39 ∧ r.2.natAbs < 2 ^ 39) : (txC r).length ≤ 27 := by
  unfold txC
  have h1 := ti_len h.1
  have h2 := ti_len h.2
  have h0 : (Str.empty).length = 0 := rfl
  have hc := col_len
  rw [len_app, len_app, len_app]
  omega
def rowC (ds : List (Int × Int)) : Str := if ds = [] then "none" else Txt.join " " (ds.map txC)
def rowP (rs : List Int) : Str := if rs = [] then "none" else Txt.join " " (rs.map ti)
def txt (ds : List (Int × Int)) (rs : List Int) : Str := Txt.join "\n" [rowC ds, rowP rs]
theorem sum_le {B : Nat} : ∀ {xs : List Str}, (∀ x ∈ xs, x.length ≤ B) → (xs.map (·.length)).sum ≤ B * xs.length
  | [], _ => Nat.zero_le _
  | x :: xs, h => by
    have h1 := h x List.mem_cons_self
    have h2 := sum_le (xs := xs) fun y hy => h y (List.mem_cons_of_mem _ hy)
    rw [List.map_cons, List.sum_cons, List.length_cons, Nat.mul_succ]
    omega
theorem sjoin_len {sep : Str} {B : Nat} : ∀ {xs : List Str}, (∀ x ∈ xs, x.length ≤ B) → (Str.join sep xs).length ≤ (B + sep.length) * xs.length
  | [], _ => Nat.zero_le _
  | [x], h => by
    have h1 := h x List.mem_cons_self
    show x.length ≤ _
    rw [List.length_singleton, Nat.mul_one]
    omega
  | x :: y :: xs, h => by
    have h1 := h x List.mem_cons_self
    have h2 := sjoin_len (sep := sep) (xs := y :: xs) fun z hz => h z (List.mem_cons_of_mem _ hz)
    show (x ++ sep ++ Str.join sep (y :: xs)).length ≤ _
    rw [len_app, len_app, List.length_cons, Nat.mul_succ]
    omega
theorem join_len {sep : Str} {B : Nat} {xs : List Str} (h : ∀ x ∈ xs, x.length ≤ B) : (Txt.join sep xs).length ≤ (B + sep.length) * xs.length := by
  show (Builtin.Str.glued sep xs).length ≤ _
  rw [StrLaws.glued_eq_join]
  exact sjoin_len h
end WN

/-! == and != of two instances by an own __eq__, both answers -/
namespace GN
open PySem PySem.Spec PyProof.Rows L2
section
variable {M : Model} {prog : Program} {w : World} {A : Around} {E : Value → Shared → Prop} {s : Shared} {K : PySem.W.Frag} {x C L f : Addr} {ox : Obj} {od : Option Obj}
theorem entry_ne {y : Value} (X : K.In s.heap) (I : PySem.W.InstAt s.heap x ox C od) (hs : PySem.W.findIn K (.ref C) "__eq__" = some (some (.ref f))) (hf : PySem.W.isFn K (.ref f) = true) (hu : A.units < cLine) {Q : Fin → Shared → Prop}
    (hcall : wpAny (model prog w) A (call (.ref f) [.ref x, y]) (fun v s' => ∃ b, v = .bool b ∧ Q (.done (.ret (.bool (!b)))) s') E s) :
    wpAny (model prog w) A (Builtin.«object.__ne__» ⟨[.ref x, y], []⟩) Q E s := by
  unfold Builtin.«object.__ne__»
  repeat (first
    | with_reducible refine wpAny_cRoomFor hu ?_
    | (refine wpAny_bind (m := callSpecialIfBound? (.ref x) (Str.ofString "__eq__") [y])
        (PySem.W.ifBound_K X I hs hf (wpAny_mono hcall (fun r s' hr => by
          obtain ⟨b, rfl, hq⟩ := hr
          repeat (first | exact hq | exact wpAny_pure hq | exact wpAny_truthy_bool hq | (refine wpAny_bind (m := truthy (.bool _)) (wpAny_truthy_bool ?_)) | wp_step)) fun _ _ e => e)))
    | wp_step)
theorem ifBound_ne {args : List Value} {Q : Option Value → Shared → Prop} (X : K.In s.heap) (I : PySem.W.InstAt s.heap x ox C od) (hs : PySem.W.findIn K (.ref C) "__ne__" = some (some (.builtin "object.__ne__")))
    (h : wpAny M A (call (.builtin "object.__ne__") (.ref x :: args)) (fun v => Q (some v)) E s) : wpAny M A (callSpecialIfBound? (.ref x) "__ne__" args) Q E s := by
  simp only [callSpecialIfBound?, bindSpecialIfBound?]
  refine wpAny_holding (wpAny_bind (wpAny_bind (wpAny_bind (I.type.here ((PySem.W.looks_findIn X hs).here ?_)))))
  refine wpAny_bind (wpAny_askSetting (wpAny_ite ?_))
  have fin : wpAny M A (call (.builtin "object.__ne__") ([.ref x] ++ args) >>= fun v => pure (some v)) Q E s := wpAny_bind (wpAny_mono h (fun v s' h' => wpAny_pure h') fun _ _ h' => h')
  split
  · exact wpAny_bind (wpAny_of_eq (F.cmp_object.ne.bind _) (wpAny_pure (by exact fin)))
  · exact wpAny_tryCatch (wpAny_bind (wpAny_of_eq (F.cmp_object.ne.bind _) (wpAny_pure (by exact fin))))
theorem rc_ne {b tb : Value} {Q : Value → Shared → Prop} (hu : A.units + 1 < cLine) (X : K.In s.heap) (I : PySem.W.InstAt s.heap x ox C od) (hb : PySem.W.Looks (model prog w) s.heap (typeOf b) tb) (hn : PySem.W.notFirst K C tb = true)
    (hm : PySem.W.mroIn K C (.type "object") = some true) (hs : PySem.W.findIn K (.ref C) "__eq__" = some (some (.ref f))) (hf : PySem.W.isFn K (.ref f) = true) (hne : PySem.W.findIn K (.ref C) "__ne__" = some (some (.builtin "object.__ne__")))
    (h : wpAny (model prog w) A.in1 (call (.ref f) [.ref x, b]) (fun v s' => ∃ r, v = .bool r ∧ Q (.bool (!r)) s') E s) : wpAny (model prog w) A (richCompare .NotEq (.ref x) b) Q E s := by
  have one : wpAny (model prog w) A (tryCompare (.ref x) "__ne__" b) (fun r s' => ∃ v, r = some v ∧ Q v s') E s := by
    unfold tryCompare
    refine wpAny_bind (ifBound_ne X I hne (wpAny_call (codeAny_call_builtin F.cmp_object.ne.plain F.cmpEntry_ne (PySem.W.check_slot F.cmpKind_ne F.cmpSplit_ne (I.type.andThen (PySem.W.looks_mroIn X hm)) (F.cmpArgs_ne _ _)
      (entry_ne (A := A.in1) X I hs hf hu (wpAny_mono h (fun v s' hv => ?_) fun _ _ e => e))))))
    obtain ⟨r, rfl, hq⟩ := hv
    first
      | exact ⟨r, rfl, wpAny_pure ⟨_, rfl, hq⟩⟩
      | exact ⟨r, rfl, wpAny_pure (wpAny_pure ⟨_, rfl, hq⟩)⟩
      | exact ⟨r, rfl, _, rfl, hq⟩
  unfold richCompare
  simp only [oneThing_ref]
  refine wpAny_holding (wpAny_bind (wpAny_cRoomFor (Nat.lt_of_succ_lt hu) ?_))
  refine wpAny_bind (I.type.here (wpAny_bind (hb.here ?_)))
  split
  · rename_i q
    have e : PySem.W.subIn K tb (.ref C) = some false := by
      rcases Bool.or_eq_true_iff.mp hn with e | e
      · rw [beq_iff_eq.mp e] at q; simp at q
      · exact beq_iff_eq.mp e
    refine wpAny_bind ((PySem.W.looks_subIn X e).here ?_)
    simp only [Bool.false_eq_true, if_false]
    refine wpAny_bind (wpAny_mono one (fun r s' z => ?_) fun _ _ e => e)
    obtain ⟨v, rfl, hq⟩ := z
    exact wpAny_pure hq
  · refine wpAny_bind (wpAny_pure ?_)
    simp only [Bool.false_eq_true, if_false]
    refine wpAny_bind (wpAny_mono one (fun r s' z => ?_) fun _ _ e => e)
    obtain ⟨v, rfl, hq⟩ := z
    exact wpAny_pure hq
end
section
variable {X : Cx} {n : Nat} {CX : CXT} {C f : Addr} {fd : FuncData} {ps : List Str} {sp : Sp} {E : XK}
/-- a def of the text, called from below -/
theorem call_own (F : FnOk X.prog X.w X.K X.mg X.base CX n f fd ps sp) (hb : Binds X.K fd ps []) (hx : Passes CX X E) {A : Around} (sb : Sub X n A) {pins : List (Addr × Obj)} {σ : L2.St} {H : Hp} {s : Shared} (I : Inv X pins σ H s) {vs : List V} {us : List Value} (r2 : Vals vs us) {Q : VK} (hsp : sp vs H Q E) :
    wpAny (model X.prog X.w) A (call (.ref f) us) (fun v s' => ∃ z H', Inv X pins σ H' s' ∧ RelV z v ∧ Q z H') X.xe s := by
  have e0 : Env0 X.prog X.w X.K X.mg X.base A X.stack s H := by
    have e := I.env0
    exact ⟨by rw [sb.fr]; exact e.frames, e.mod, e.bs, e.bsz, e.funs, e.frf, e.hok, e.bare⟩
  have hl := F.len _ _ _ _ hsp
  refine wpAny_call (codeAny_mono (F.run A X.stack s H ⟨us, []⟩ us vs _ E sb.room e0 (by
    have := hb s us I.kIn (by rw [List.append_nil, ← r2.length]; exact hl)
    simpa using this) r2 hsp) fun r s' hq => ?_)
  cases r with
  | error e => exact hx pins σ H s e s' I hq
  | ok fl =>
    cases fl with
    | ret w =>
      obtain ⟨z, H', I', rz, ez⟩ := I.after hq
      exact ⟨z, H', I', rz, ez⟩
    | next => exact False.elim hq
    | brk => exact False.elim hq
    | cont => exact False.elim hq
/-- what == (neg: !=) of two instances of the class asks -/
def rOwn (C : Addr) (sp : Sp) (E : XK) (neg : Bool) : R2 := fun x y H Q => ∃ a b dx dy fs gs, x = .ref a ∧ y = .ref b ∧ H a = some (.ins C dx fs) ∧ H b = some (.ins C dy gs) ∧ sp [.ref a, .ref b] H (fun v H' => ∃ r, v = .bl r ∧ Q (.bl (neg != r)) H') E
theorem op_eqOwn (F : FnOk X.prog X.w X.K X.mg X.base CX n f fd ps sp) (hr : Room n X.A) (hs : PySem.W.findIn X.K (.ref C) "__eq__" = some (some (.ref f))) (hf : PySem.W.isFn X.K (.ref f) = true) (hb : Binds X.K fd ps []) (hx : Passes CX X E) : OpR X (compareOp .Eq) (rOwn C sp E false) := by
  intro pins s σ H x y v u Q I rx ry hq
  obtain ⟨a, b, dx, dy, fs, gs, rfl, rfl, ha, hb', hsp⟩ := hq
  cases rx
  cases ry
  obtain ⟨mA, J, _⟩ := ins_get I.hok ha
  obtain ⟨mB, J', _⟩ := ins_get I.hok hb'
  obtain ⟨od, J, _⟩ := J.look
  obtain ⟨od', J', _⟩ := J'.look
  have sb : Sub X n X.A := ⟨hr, rfl⟩
  have r2 : Vals [V.ref a, V.ref b] [Value.ref a, Value.ref b] := .cons rfl (.cons rfl .nil)
  obtain ⟨m, hF⟩ := I.fr
  show wpAny (model X.prog X.w) X.A (richCompare .Eq _ _) (EP X pins σ Q) X.xe s
  refine PySem.W.cmp_K (op := .Eq) (tb := .ref C) sb.room.units0 hF I.ok.mod.kin J J'.type (by simp [PySem.W.notFirst]) hs hf ?_
  refine wpAny_mono (call_own F hb hx sb I r2 hsp) (fun v s' hv => ?_) fun _ _ e => e
  obtain ⟨z, H', I', rz, r, rfl, q⟩ := hv
  cases rz
  exact ⟨.bl r, H', I', rfl, by cases r <;> exact q⟩
theorem op_neOwn (F : FnOk X.prog X.w X.K X.mg X.base CX n f fd ps sp) (hr : Room (n + 1) X.A) (hs : PySem.W.findIn X.K (.ref C) "__eq__" = some (some (.ref f))) (hf : PySem.W.isFn X.K (.ref f) = true) (hm : PySem.W.mroIn X.K C (.type "object") = some true)
    (hne : PySem.W.findIn X.K (.ref C) "__ne__" = some (some (.builtin "object.__ne__"))) (hb : Binds X.K fd ps []) (hx : Passes CX X E) : OpR X (compareOp .NotEq) (rOwn C sp E true) := by
  intro pins s σ H x y v u Q I rx ry hq
  obtain ⟨a, b, dx, dy, fs, gs, rfl, rfl, ha, hb', hsp⟩ := hq
  cases rx
  cases ry
  obtain ⟨mA, J, _⟩ := ins_get I.hok ha
  obtain ⟨mB, J', _⟩ := ins_get I.hok hb'
  obtain ⟨od, J, _⟩ := J.look
  obtain ⟨od', J', _⟩ := J'.look
  have sb : Sub X (n + 1) X.A := ⟨hr, rfl⟩
  have r2 : Vals [V.ref a, V.ref b] [Value.ref a, Value.ref b] := .cons rfl (.cons rfl .nil)
  show wpAny (model X.prog X.w) X.A (richCompare .NotEq _ _) (EP X pins σ Q) X.xe s
  refine rc_ne (tb := .ref C) sb.in1.room.units0 I.kIn J J'.type (by simp [PySem.W.notFirst]) hm hs hf hne ?_
  refine wpAny_mono (call_own F hb hx sb.in1 I r2 hsp) (fun v s' hv => ?_) fun _ _ e => e
  obtain ⟨z, H', I', rz, r, rfl, q⟩ := hv
  cases rz
  exact ⟨r, rfl, .bl (!r), H', I', rfl, by cases r <;> exact q⟩
end
end GN

/-! str(x) by an own __str__; == and != of an instance and a value of another type -/
namespace GS
open PySem PySem.Spec PyProof.Rows L2 GN
section
variable {X : Cx} {n : Nat} {CX : CXT} {C f : Addr} {fd : FuncData} {ps : List Str} {sp : Sp} {E : XK}
def rOth (K : PySem.W.Frag) (C : Addr) (sp : Sp) (E : XK) (neg : Bool) : R2 := fun x y H Q => ∃ a dx fs t, x = .ref a ∧ H a = some (.ins C dx fs) ∧ TyX K H y t ∧ PySem.W.notFirst K C t = true ∧ sp [.ref a, y] H (fun v H' => ∃ r, v = .bl r ∧ Q (.bl (neg != r)) H') E
theorem op_eqOth (F : FnOk X.prog X.w X.K X.mg X.base CX n f fd ps sp) (hr : Room n X.A) (hs : PySem.W.findIn X.K (.ref C) "__eq__" = some (some (.ref f))) (hf : PySem.W.isFn X.K (.ref f) = true) (hb : Binds X.K fd ps []) (hx : Passes CX X E) : OpR X (compareOp .Eq) (rOth X.K C sp E false) := by
  intro pins s σ H x y v u Q I rx ry hq
  obtain ⟨a, dx, fs, t, rfl, ha, ty, nf, hsp⟩ := hq
  cases rx
  obtain ⟨mA, J, _⟩ := ins_get I.hok ha
  obtain ⟨od, J, _⟩ := J.look
  obtain ⟨Pt, Z, p, _⟩ := kit_of I ry ty
  have sb : Sub X n X.A := ⟨hr, rfl⟩
  have r2 : Vals [V.ref a, y] [Value.ref a, u] := .cons rfl (.cons ry .nil)
  obtain ⟨m, hF⟩ := I.fr
  show wpAny (model X.prog X.w) X.A (richCompare .Eq _ _) (EP X pins σ Q) X.xe s
  refine PySem.W.cmp_K (op := .Eq) (tb := t) sb.room.units0 hF I.ok.mod.kin J (Z.ty _ _ I.kIn p) nf hs hf ?_
  refine wpAny_mono (call_own F hb hx sb I r2 hsp) (fun v s' hv => ?_) fun _ _ e => e
  obtain ⟨z, H', I', rz, r, rfl, q⟩ := hv
  cases rz
  exact ⟨.bl r, H', I', rfl, by cases r <;> exact q⟩
theorem op_neOth (F : FnOk X.prog X.w X.K X.mg X.base CX n f fd ps sp) (hr : Room (n + 1) X.A) (hs : PySem.W.findIn X.K (.ref C) "__eq__" = some (some (.ref f))) (hf : PySem.W.isFn X.K (.ref f) = true) (hm : PySem.W.mroIn X.K C (.type "object") = some true)
    (hne : PySem.W.findIn X.K (.ref C) "__ne__" = some (some (.builtin "object.__ne__"))) (hb : Binds X.K fd ps []) (hx : Passes CX X E) : OpR X (compareOp .NotEq) (rOth X.K C sp E true) := by
  intro pins s σ H x y v u Q I rx ry hq
  obtain ⟨a, dx, fs, t, rfl, ha, ty, nf, hsp⟩ := hq
  cases rx
  obtain ⟨mA, J, _⟩ := ins_get I.hok ha
  obtain ⟨od, J, _⟩ := J.look
  obtain ⟨Pt, Z, p, _⟩ := kit_of I ry ty
  have sb : Sub X (n + 1) X.A := ⟨hr, rfl⟩
  have r2 : Vals [V.ref a, y] [Value.ref a, u] := .cons rfl (.cons ry .nil)
  show wpAny (model X.prog X.w) X.A (richCompare .NotEq _ _) (EP X pins σ Q) X.xe s
  refine rc_ne (tb := t) sb.in1.room.units0 I.kIn J (Z.ty _ _ I.kIn p) nf hm hs hf hne ?_
  refine wpAny_mono (call_own F hb hx sb.in1 I r2 hsp) (fun v s' hv => ?_) fun _ _ e => e
  obtain ⟨z, H', I', rz, r, rfl, q⟩ := hv
  cases rz
  exact ⟨r, rfl, .bl (!r), H', I', rfl, by cases r <;> exact q⟩
/-- str(x) of an instance whose class has a __str__ of its own -/
def rStrOwn (C : Addr) (sp : Sp) (E : XK) : List V → Hp → VK → Prop := fun vs H Q => ∃ a dx fs, vs = [.ref a] ∧ H a = some (.ins C dx fs) ∧ sp [.ref a] H (fun v H' => ∃ z : Str, v = .str z ∧ Q (.str z) H') E
theorem cr_strOwn (F : FnOk X.prog X.w X.K X.mg X.base CX n f fd ps sp) (hr : Room (n + 2) X.A) (hs : PySem.W.findIn X.K (.ref C) "__str__" = some (some (.ref f))) (hf : PySem.W.isFn X.K (.ref f) = true) (hb : Binds X.K fd ps []) (hx : Passes CX X E) : CallR X (.type "str") (rStrOwn C sp E) := by
  intro pins s σ H vs us Q I r h
  obtain ⟨a, dx, fs, rfl, ha, hsp⟩ := h
  have er : us = [Value.ref a] := Vals.ref1 r
  subst er
  obtain ⟨mA, J, _⟩ := ins_get I.hok ha
  obtain ⟨od, J, _⟩ := J.look
  have sb : Sub X (n + 2) X.A := ⟨hr, rfl⟩
  have r2 : Vals [V.ref a] [Value.ref a] := .cons rfl .nil
  refine PySem.W.kso_call sb.in1.in1.room.units0 I.kIn J hs hf ?_
  refine wpAny_mono (call_own F hb hx sb.in1.in1 I r2 hsp) (fun v s' hv => ?_) fun _ _ e => e
  obtain ⟨z, H', I', rz, y, rfl, q⟩ := hv
  obtain ⟨t, rfl⟩ := rz
  exact ⟨.str y, H', I', ⟨t, rfl⟩, q⟩
end
end GS

/-! ints in texts, read back; rows of three ints -/
namespace NX
open PySem TL NumText
def tI (i : Int) : Str := toString i
theorem tl_int (i : Int) : tl (tI i) = if i < 0 then 45 :: numL i.natAbs else numL i.natAbs := by
  cases i with
  | ofNat m => exact tl_num m
  | negSucc m =>
    rw [if_pos (Int.negSucc_lt_zero m)]
    show tl (Str.ofString ("-" ++ toString (m + 1))) = 45 :: numL (m + 1)
    rw [tl_ofString, String.toList_append, List.map_append, ← tl_num (m + 1), tl_ofString]
    rfl
theorem sub0 (x y : Str) : Builtin.Str.subAt x y 0 = ((tl x).take y.length == tl y) := by
  rw [PySem.StrLaws.subAt_eq, List.drop_zero]
theorem len1 (c : Nat) : ((⟨#[c]⟩ : Str)).length = 1 := rfl
theorem mi : ("-" : Str) = ⟨#[45]⟩ := by decide +kernel
theorem ze : ("0" : Str) = ⟨#[48]⟩ := by decide +kernel
theorem rp_neg {w : Str} {l : List Nat} (h : tl w = 45 :: l) : tl (Txt.removeprefix w "-") = l := by
  have hl : w.length = l.length + 1 := by rw [len_tl, h]; rfl
  unfold Txt.removeprefix
  rw [mi, sub0, len1, h, if_pos (by rfl)]
  show tl (if (w.length - 1 == w.length) = true then w else Builtin.Str.strSub w 1 w.length) = l
  rw [if_neg (by rw [beq_iff_eq]; omega), tl_strSub_end, h]
  rfl
theorem rp_pos {w : Str} (h : ∀ l, tl w ≠ 45 :: l) : Txt.removeprefix w "-" = w := by
  unfold Txt.removeprefix
  rw [mi, sub0, len1, if_neg]
  · rfl
  · intro z
    have z2 := eq_of_beq z
    cases hw : tl w with
    | nil => rw [hw] at z2; cases z2
    | cons c l =>
      rw [hw] at z2
      have : c = 45 := (List.cons.inj z2).1
      exact h l (by rw [hw, this])
/-- a word that is_numeral takes -/
def isNum (w : Str) : Bool := (Txt.isascii (Txt.removeprefix w "-") && Txt.isdigit (Txt.removeprefix w "-")) && (w == "0" || !Txt.startswith (Txt.removeprefix w "-") "0")
theorem dig_of : ∀ c : _root_.Fin 128, Unicode.isDigit c.val = (decide (48 ≤ c.val) && decide (c.val ≤ 57)) := by decide +kernel
theorem asc {d : Str} : Txt.isascii d = true ↔ ∀ c ∈ tl d, c < 128 := by
  unfold Txt.isascii
  rw [← Array.all_toList, List.all_eq_true]
  constructor
  · intro h c hc; exact of_decide_eq_true (h c hc)
  · intro h c hc; exact decide_eq_true (h c hc)
theorem both_dig {d : Str} : (Txt.isascii d && Txt.isdigit d) = true ↔ AllDigits (tl d) ∧ tl d ≠ [] := by
  rw [Bool.and_eq_true, asc]
  unfold Txt.isdigit
  rw [Bool.and_eq_true, ← Array.all_toList, List.all_eq_true, decide_eq_true_eq, len_tl]
  constructor
  · rintro ⟨h1, h2, h3⟩
    refine ⟨fun c hc => ?_, fun z => by rw [z] at h2; exact absurd h2 (by decide)⟩
    have := h3 c hc
    rw [dig_of ⟨c, h1 c hc⟩, Bool.and_eq_true, decide_eq_true_eq, decide_eq_true_eq] at this
    exact this
  · rintro ⟨h1, h2⟩
    refine ⟨fun c hc => by have := h1 c hc; omega, ?_, fun c hc => ?_⟩
    · cases hd : tl d with
      | nil => exact absurd hd h2
      | cons _ _ => exact Nat.succ_pos _
    · have := h1 c hc
      rw [dig_of ⟨c, by omega⟩, decide_eq_true this.1, decide_eq_true this.2]
      rfl
theorem num_head (n : Nat) (h : 0 < n) : ∃ c l, numL n = c :: l ∧ c ≠ 48 := by
  induction n using Nat.strongRecOn with
  | _ n ih =>
    by_cases k : n < 10
    · exact ⟨48 + n, [], numL_lt k, by omega⟩
    · obtain ⟨c, l, e, hc⟩ := ih (n / 10) (by omega) (by omega)
      exact ⟨c, l ++ [48 + n % 10], by rw [numL_step (by omega), e]; rfl, hc⟩
theorem starts0 {d : Str} {c : Nat} {l : List Nat} (h : tl d = c :: l) (hc : c ≠ 48) : Txt.startswith d "0" = false := by
  unfold Txt.startswith
  rw [ze, sub0, len1, h]
  have : ([c] == [48]) = false := by rw [beq_eq_false_iff_ne]; intro z; exact hc (List.cons.inj z).1
  show (_ && ((c :: l).take 1 == [48])) = false
  rw [show (c :: l).take 1 = [c] from rfl, this, Bool.and_false]
theorem dig_ne {n : Nat} : ∀ l, numL n ≠ 45 :: l := fun l z => by
  have := numL_digits n 45 (by rw [z]; exact List.mem_cons_self)
  omega
theorem rp_int (n : Int) : tl (Txt.removeprefix (tI n) "-") = numL n.natAbs := by
  have h := tl_int n
  by_cases c : n < 0
  · rw [if_pos c] at h; exact rp_neg h
  · rw [if_neg c] at h
    rw [rp_pos (by rw [h]; exact dig_ne), h]
theorem isNum_int (n : Int) : isNum (tI n) = true := by
  unfold isNum
  have h := rp_int n
  rw [both_dig.mpr (by rw [h]; exact ⟨numL_digits _, numL_ne _⟩), Bool.true_and]
  by_cases z : n = 0
  · subst z; decide +kernel
  · obtain ⟨c, l, e, hc⟩ := num_head n.natAbs (by omega)
    rw [starts0 (h.trans e) hc]
    exact Bool.or_true _
theorem len_int {n : Int} (h : n.natAbs ≤ 1000000000) : (tI n).length ≤ 11 := by
  have := numL_len (n := n.natAbs) (k := 10) (by decide) (Nat.lt_of_le_of_lt h (by decide))
  rw [len_tl, tl_int]
  split
  · rw [List.length_cons]; omega
  · omega
theorem read_int {n : Int} (h : n.natAbs ≤ 1000000000) : intText? (tI n) = some n := by
  have hl := len_int h
  have ht := tl_int n
  by_cases c : n < 0
  · rw [if_pos c] at ht
    have e := intText_neg (x := tI n) ht (numL_digits _) (numL_ne _) (by omega)
    rw [e, numL_val]
    congr 1
    omega
  · rw [if_neg c] at ht
    have e := intText_digits (x := tI n) (by show AllDigits (tl (tI n)); rw [ht]; exact numL_digits _) (by show tl (tI n) ≠ []; rw [ht]; exact numL_ne _) (by omega)
    rw [e]
    show some ((digitsVal (tl (tI n)) : Nat) : Int) = _
    rw [ht, numL_val]
    congr 1
    omega
/-- a numeral can be read -/
theorem num_reads {w : Str} (h : isNum w = true) (hl : w.length ≤ 4300) : ∃ n, intText? w = some n := by
  unfold isNum at h
  rw [Bool.and_eq_true] at h
  obtain ⟨h1, h2⟩ := both_dig.mp h.1
  by_cases c : ∃ l, tl w = 45 :: l
  · obtain ⟨l, e⟩ := c
    rw [rp_neg e] at h1 h2
    exact ⟨_, intText_neg e h1 h2 hl⟩
  · rw [rp_pos (fun l z => c ⟨l, z⟩)] at h1 h2
    exact ⟨_, intText_digits h1 h2 hl⟩
/-- what reading_of tells -/
def rdw (w : Str) : Option Int := if 11 < w.length || !isNum w then none else match intText? w with
  | some n => if n.natAbs ≤ 1000000000 then some n else none
  | none => none
theorem rdw_int {n : Int} (h : n.natAbs ≤ 1000000000) : rdw (tI n) = some n := by
  unfold rdw
  rw [isNum_int n, decide_eq_false (show ¬ 11 < (tI n).length by have := len_int h; omega)]
  show (match intText? (tI n) with | some n => if n.natAbs ≤ 1000000000 then some n else none | none => none) = _
  rw [read_int h]
  exact if_pos h
abbrev Ent := Int × Int × Int
def okE (a b c : Int) : Bool := !(decide (b ≤ a) || (decide (c < 0) || decide (1000000 < c)))
/-- what entry_of tells -/
def entw (ws : List Str) : Option Ent := match ws.map rdw with
  | [some a, some b, some c] => if okE a b c then some (a, b, c) else none
  | _ => none
structure Val (e : Ent) : Prop where
  lo : e.1.natAbs ≤ 1000000000
  hi : e.2.1.natAbs ≤ 1000000000
  lt : e.1 < e.2.1
  am : 0 ≤ e.2.2
  le : e.2.2 ≤ 1000000
theorem Val.ok {e : Ent} (h : Val e) : okE e.1 e.2.1 e.2.2 = true := by
  unfold okE
  rw [decide_eq_false (by have := h.lt; omega), decide_eq_false (by have := h.am; omega), decide_eq_false (by have := h.le; omega)]
  rfl
def wds (e : Ent) : List Str := [tI e.1, tI e.2.1, tI e.2.2]
theorem entw_of {e : Ent} (h : Val e) : entw (wds e) = some e := by
  unfold entw wds
  have h3 : e.2.2.natAbs ≤ 1000000000 := by have := h.am; have := h.le; omega
  show (match [rdw (tI e.1), rdw (tI e.2.1), rdw (tI e.2.2)] with | [some a, some b, some c] => if okE a b c then some (a, b, c) else none | _ => none) = _
  rw [rdw_int h.lo, rdw_int h.hi, rdw_int h3]
  show (if okE e.1 e.2.1 e.2.2 then some (e.1, e.2.1, e.2.2) else none) = _
  rw [h.ok]
  rfl
def row (e : Ent) : Str := Txt.join " " (wds e)
def txt (T : List Ent) : Str := Txt.join "\n" (T.map row)
theorem blk : tl (" " : Str) = [32] := by decide +kernel
theorem nlk : tl ("\n" : Str) = [10] := by decide +kernel
theorem int_signs {n : Int} {c : Nat} (h : c ∈ tl (tI n)) : c = 45 ∨ (48 ≤ c ∧ c ≤ 57) := by
  rw [tl_int] at h
  split at h
  · rcases List.mem_cons.mp h with e | e
    · exact .inl e
    · exact .inr (numL_digits _ c e)
  · exact .inr (numL_digits _ c h)
theorem split_row (e : Ent) : Txt.split (row e) " " = wds e := by
  refine split_join (s := 32) (S := []) blk (by decide +kernel) (by unfold wds; simp) fun p hp z => ?_
  unfold wds at hp
  simp only [List.mem_cons, List.not_mem_nil, or_false] at hp
  rcases hp with rfl | rfl | rfl <;> (have := int_signs z; omega)
theorem mem_joinL {S : List Nat} {c : Nat} : ∀ {ps : List (List Nat)}, c ∈ joinL S ps → c ∈ S ∨ ∃ p ∈ ps, c ∈ p
  | [], h => (List.not_mem_nil h).elim
  | [p], h => .inr ⟨p, List.mem_singleton.mpr rfl, h⟩
  | p :: q :: r, h => by
    rcases List.mem_append.mp (show c ∈ p ++ (S ++ joinL S (q :: r)) from h) with h | h
    · exact .inr ⟨p, List.mem_cons_self, h⟩
    rcases List.mem_append.mp h with h | h
    · exact .inl h
    · rcases mem_joinL h with h | ⟨x, hx, h⟩
      · exact .inl h
      · exact .inr ⟨x, List.mem_cons_of_mem _ hx, h⟩
theorem row_signs {e : Ent} {c : Nat} (h : c ∈ tl (row e)) : c = 32 ∨ c = 45 ∨ (48 ≤ c ∧ c ≤ 57) := by
  unfold row at h
  rw [join_eq, tl_join, blk] at h
  rcases mem_joinL h with h | ⟨p, hp, h⟩
  · exact .inl (List.mem_singleton.mp h)
  · obtain ⟨x, hx, rfl⟩ := List.mem_map.mp hp
    unfold wds at hx
    simp only [List.mem_cons, List.not_mem_nil, or_false] at hx
    rcases hx with rfl | rfl | rfl <;> exact .inr (int_signs h)
theorem split_txt {T : List Ent} (h : T ≠ []) : Txt.split (txt T) "\n" = T.map row :=
  split_join (s := 10) (S := []) nlk (by decide +kernel) (fun z => h (List.map_eq_nil_iff.mp z)) fun p hp z => by
    obtain ⟨e, _, rfl⟩ := List.mem_map.mp hp
    have := row_signs z
    omega
theorem row_tl (e : Ent) : tl (row e) = tl (tI e.1) ++ (32 :: (tl (tI e.2.1) ++ (32 :: tl (tI e.2.2)))) := by
  unfold row wds
  rw [join_eq, tl_join, blk]
  rfl
theorem row_form (e : Ent) : ((((Str.empty ++ tI e.1) ++ " ") ++ tI e.2.1) ++ " ") ++ tI e.2.2 = row e := by
  refine ext_tl ?_
  rw [row_tl, tl_append, tl_append, tl_append, tl_append, tl_append, blk]
  show (((([] ++ tl (tI e.1)) ++ [32]) ++ tl (tI e.2.1)) ++ [32]) ++ tl (tI e.2.2) = _
  rw [List.nil_append, List.append_assoc, List.append_assoc, List.append_assoc]
  rfl
theorem txt_nil : txt [] = "" := by decide +kernel
theorem row_ne (e : Ent) : tl (row e) ≠ [] := by
  rw [row_tl]
  intro z
  have := (List.append_eq_nil_iff.mp z).2
  cases this
theorem txt_ne {T : List Ent} (h : T ≠ []) : txt T ≠ "" := by
  cases T with
  | nil => exact absurd rfl h
  | cons e es =>
    intro z
    have := congrArg tl z
    unfold txt at this
    rw [join_eq, tl_join] at this
    cases es with
    | nil => exact row_ne e this
    | cons f fs =>
      have t2 : tl (row e) ++ (tl ("\n" : Str) ++ joinL (tl "\n") ((row f :: fs.map row).map tl)) = [] := this
      exact row_ne e (List.append_eq_nil_iff.mp t2).1
theorem rows_back : ∀ {T : List Ent}, (∀ e ∈ T, Val e) → (T.map row).map (fun r => entw (Txt.split r " ")) = T.map some
  | [], _ => rfl
  | e :: es, h => by
    rw [List.map_cons, List.map_cons, List.map_cons, split_row, entw_of (h e List.mem_cons_self), rows_back fun x hx => h x (List.mem_cons_of_mem _ hx)]
theorem txt_inj {T U : List Ent} (h : ∀ e ∈ T, Val e) (g : ∀ e ∈ U, Val e) (k : txt T = txt U) : T = U := by
  by_cases hT : T = []
  · by_cases hU : U = []
    · rw [hT, hU]
    · rw [hT, txt_nil] at k; exact absurd k.symm (txt_ne hU)
  · by_cases hU : U = []
    · rw [hU, txt_nil] at k; exact absurd k (txt_ne hT)
    · have e1 := split_txt hT
      rw [k, split_txt hU] at e1
      have e2 := rows_back h
      rw [← e1, rows_back g] at e2
      exact ((List.map_inj_right fun a b z => Option.some.inj z).mp e2).symm
end NX

set_option pp.maxSteps 900
/-! the text of a table -/
namespace H8T
open PySem PySem.Spec PyProof.Rows L2 KA KD PH PM RM K52b XU
open XT hiding pairs_get
open WN (ti ti_len ti_log len_app join_len sum_le)
abbrev sTS : Stmt := inClass sTable 5
theorem scTS : FnScope ["self", "low", "high", "amount"] ["self"] (defScope sTS) := ⟨rfl, rfl, rfl, by decide +kernel, rfl, by decide +kernel, by decide +kernel⟩
/-- small entries -/
def Sml (T : List Ent) : Prop := ∀ e ∈ T, e.1.natAbs < 2 ^ 39 ∧ e.2.1.natAbs < 2 ^ 39 ∧ e.2.2.natAbs < 2 ^ 39
def txE (e : Ent) : Str := ((((Str.empty ++ ti e.1) ++ " ") ++ ti e.2.1) ++ " ") ++ ti e.2.2
theorem bl_len : ((" " : Str)).length = 1 := by decide +kernel
theorem txE_len {e : Ent} (h : e.1.natAbs < 2 ^ 39 ∧ e.2.1.natAbs < 2 ^ 39 ∧ e.2.2.natAbs < 2 ^ 39) : (txE e).length ≤ 41 := by
  unfold txE
  have h1 := ti_len h.1
  have h2 := ti_len h.2.1
  have h3 := ti_len h.2.2
  have h0 : (Str.empty).length = 0 := rfl
  have hc := bl_len
  rw [len_app, len_app, len_app, len_app, len_app]
  omega
def ttx (T : List Ent) : Str := Txt.join "\n" (T.map txE)
section
variable {P : Program} {w : World} {K : PySem.W.Frag} {mg : Str → Option Value} {base : Heap} {C : Addr}
def teE : TE := fun σ H Q => tJs [tFmt (tVar 1), tC (V.str " "), tFmt (tVar 2), tC (V.str " "), tFmt (tVar 3)] Str.empty σ H fun out H1 => Q (.str out) H1
def spTS (C : Addr) : Sp := fun vs H Q _ => ∃ (x : Addr) (T : List Ent), vs = [.ref x] ∧ TabAt H C x T ∧ T.length ≤ 30000 ∧ Sml T ∧ ∀ H', Same H H' → Q (.str (ttx T)) H'
theorem ok_TS {f : Addr} {fd : FuncData} {k : Nat} (F : Fun K "__str__" "Table.__str__" sTS f fd) (T : Tbl K C) : FnOk P w K mg base CX0 (k + 1) f fd ["self"] (spTS C) := by
  refine F.ok scTS (fun vs H Q E h => ?_) (fun cdv A outer s H vs Q E hr h => ?_)
  · obtain ⟨x, T, rfl, _⟩ := h
    rfl
  · obtain ⟨x, es, rfl, ⟨dx, t, ys, hx, ht, tr⟩, le, sm, q⟩ := h
    refine ⟨_, pss_one (ps_ret (pe_join pe_str (pe_lc (own := [("low", 1), ("high", 2), ("amount", 3)]) (g := gTup K 3 (gCons (gName 1) (gCons (gName 2) (gCons (gName 3) gNil)))) (tt := tYes) (te := teE) rfl scTS.nd (pi_tup (pe_fld (pv 0) rfl)) (blkOk_by (own := [("low", 1), ("high", 2), ("amount", 3)]) (N := ["self", "low", "high", "amount"]) (sc := defScope sTS) (by decide +kernel)) (fun _ _ _ _ _ => (pg_tup rfl (pgs_cons (pg_name (i := 1) scTS.nd rfl (Or.inl rfl) (Or.inr rfl)) (pgs_cons (pg_name (i := 2) scTS.nd rfl (Or.inl rfl) (Or.inr rfl)) (pgs_cons (pg_name (i := 3) scTS.nd rfl (Or.inl rfl) (Or.inr rfl)) pgs_nil))))) (fun _ _ _ _ _ => pts_nil) (fun _ _ _ _ _ => (pe_joined (.cons (pe_fmt (pv 1)) (.cons pe_str (.cons (pe_fmt (pv 2)) (.cons pe_str (.cons (pe_fmt (pv 3)) .nil)))))))))), ?_⟩
    have hl := tr.length
    refine ⟨⟨_, rfl⟩, .ref x, rfl, x, C, dx, _, .ref t, rfl, hx, T.cl, T.nE, rfl, t, rfl, ⟨_, SqT.of ht⟩, fun D nD => ?_⟩
    refine lc_tup (K := K) (a := t) (xs := ys) (fun i Hz => Hz = upd H D (.lst (((es.take i).map txE).map V.str))) rfl (fun i Hz _ e => by rw [e]; exact SqT.of ((same_new nD) _ _ ht)) ?_ ?_
    · rintro i y Hz hy rfl
      obtain ⟨p, e, rfl, er, hp⟩ := tr.get hy
      have hp2 := (same_new (o := .lst (((es.take i).map txE).map V.str)) nD) _ _ hp
      have hr := sm e (List.mem_of_getElem? er)
      refine ⟨p, _, rfl, SqT.of hp2, rfl, .int e.1, [.int e.2.1, .int e.2.2], rfl, .int e.2.1, [.int e.2.2], rfl, .int e.2.2, [], rfl, rfl, rfl, iteT (B := True) ?_⟩
      have h0 : (Str.empty).length = 0 := rfl
      have l1 := ti_len hr.1
      have l2 := ti_len hr.2.1
      have l3 := ti_len hr.2.2
      have hc := bl_len
      have sl : ∀ {n : Nat}, n ≤ 100 → n ≤ sizeLine := fun h => Nat.le_trans h (by decide)
      refine ⟨.int e.1, rfl, .inr ⟨e.1, rfl, ti_log hr.1, ti e.1, rfl, sl (by rw [len_app]; omega), " ", rfl, sl (by rw [len_app, len_app]; omega), .int e.2.1, rfl, .inr ⟨e.2.1, rfl, ti_log hr.2.1, ti e.2.1, rfl, sl (by rw [len_app, len_app, len_app]; omega), " ", rfl, sl (by rw [len_app, len_app, len_app, len_app]; omega), .int e.2.2, rfl, .inr ⟨e.2.2, rfl, ti_log hr.2.2, ti e.2.2, rfl, sl (by rw [len_app, len_app, len_app, len_app, len_app]; omega), _, upd_same, ?_, ?_⟩⟩⟩⟩
      · rw [List.length_map, List.length_map, List.length_take]
        exact Nat.lt_of_le_of_lt (show _ ≤ 30000 by omega) (by decide)
      · rw [upd_upd, List.take_add_one, er, List.map_append, List.map_append]
        rfl
    rintro Hz rfl
    rw [hl, List.take_length]
    refine ⟨_, D, es.map txE, rfl, rfl, .inl (SqL.of upd_same), ?_, ?_⟩
    · have h1 := sum_le (B := 41) (xs := es.map txE) fun x hx => by
        obtain ⟨r, hr, e⟩ := List.mem_map.mp hx
        rw [← e]
        exact txE_len (sm r hr)
      have h2 : (("\n" : Str)).length = 1 := by decide +kernel
      rw [h2, List.length_map] at *
      omega
    · exact q _ (same_new (o := .lst ((es.map txE).map V.str)) nD)
end
theorem txE_row (e : Ent) : txE e = NX.row e := NX.row_form e
theorem ttx_txt (T : List Ent) : ttx T = NX.txt T := by
  unfold ttx NX.txt
  congr 1
  exact List.map_congr_left fun e _ => txE_row e
end H8T

/-! cls(..), cls a parameter that holds a class -/
namespace GML
open PySem PySem.Spec PyProof.Rows L2
/-- cls(..), cls a parameter that holds a class -/
theorem pe_makeL {X : Cx} {CX : CXT} {k i : Nat} {C f : Addr} {fd : FuncData} {ps : List Str} {sp : Sp} {dvs : List V} {ds : List Value} {E : XK} {x : Str} {p pos : Pos} {e : Expr} {es : List Expr} {t : TA}
    (M : Mk X.K C f) (F : FnOk X.prog X.w X.K X.mg X.base CX k f fd ps sp) (hr : Room (k + 1) X.A) (hN : X.N[i]? = some x) (hv : Vis X.env.scope x) (hb : Binds X.K fd ps ds) (hd : Vals dvs ds) (hx : Passes CX X E) (ha : PA X (e :: es) t)
    (hdb : (x == ("__debug__" : Str)) = false := by decide) (hcd : (x == ("__classdict__" : Str)) = false := by decide)
    (he : starEach (e :: es) X.env = (false, eval e X.env) :: starEach es X.env := by rfl) (hpl : (backTo pos (starEach es X.env)).any (·.1) = false := by rfl) :
    PE X (.Call (.Name x p) (e :: es) [] pos) (fun σ H Q => σ[i]? = some (some (.ref C)) ∧ tMake C sp dvs E t σ H Q) := by
  refine ⟨fun pins s σ H Q I ⟨hs, ht⟩ => ?_⟩
  refine wpAny_Call_Name_kw (thn ((pe_var (pos := p) hN hv hdb hcd).run pins s σ H (fun v H1 => v = .ref C ∧ H1 = H) I ⟨.ref C, hs, rfl, rfl⟩) fun u s1 ⟨v, H1, I1, r1, e1, e2⟩ => ?_)
  subst e1 e2
  cases r1
  exact PySem.W.callWith_K (h₀ := X.base) I.ok.mod.kin M.kp (thn (ha.run pos pins s1 σ _ _ I1 ht) fun us s2 ⟨vs, H2, I2, r, q⟩ => ⟨I2.kIn, run_make M F hr hb hd hx I2 r q⟩) he hpl
end GML

set_option pp.maxSteps 900
/-! words that are numbers; a table read from a text; equal tables -/
namespace Z5K
open PySem PySem.Spec PyProof.Rows L2 KA KD PH PM RM K52b XU GML
open XT hiding pairs_get
open NX (isNum rdw entw okE Val tI wds)
abbrev sNU : Stmt := topS 6
abbrev sRD : Stmt := topS 7
abbrev sNM : Stmt := topS 10
abbrev sRO : Stmt := topS 11
abbrev sEO : Stmt := topS 15
abbrev sPA : Stmt := inClass sTable 1
abbrev sEQ : Stmt := inClass sTable 4
theorem scNU : FnScope ["value"] ["value"] (defScope sNU) := ⟨rfl, rfl, rfl, by decide +kernel, rfl, by decide +kernel, by decide +kernel⟩
theorem scRD : FnScope ["value"] ["value"] (defScope sRD) := ⟨rfl, rfl, rfl, by decide +kernel, rfl, by decide +kernel, by decide +kernel⟩
theorem scNM : FnScope ["word", "digits"] ["word"] (defScope sNM) := ⟨rfl, rfl, rfl, by decide +kernel, rfl, by decide +kernel, by decide +kernel⟩
theorem scRO : FnScope ["word", "reading"] ["word"] (defScope sRO) := ⟨rfl, rfl, rfl, by decide +kernel, rfl, by decide +kernel, by decide +kernel⟩
theorem scEO : FnScope ["words", "numbers", "low", "high", "amount", "word"] ["words"] (defScope sEO) := ⟨rfl, rfl, rfl, by decide +kernel, rfl, by decide +kernel, by decide +kernel⟩
theorem scPA : FnScope ["cls", "text", "entries", "row"] ["cls", "text"] (defScope sPA) := ⟨rfl, rfl, rfl, by decide +kernel, rfl, by decide +kernel, by decide +kernel⟩
theorem scEQ : FnScope ["self", "other"] ["self", "other"] (defScope sEQ) := ⟨rfl, rfl, rfl, by decide +kernel, rfl, by decide +kernel, by decide +kernel⟩
def optV : Option Int → V
  | none => .non | some s => .int s
theorem opt_flat (os : List (Option Int)) : (os.map optV).all flatV = true := by
  rw [List.all_eq_true]
  intro v hv
  obtain ⟨o, _, rfl⟩ := List.mem_map.mp hv
  cases o <;> rfl
theorem opt_in : ∀ os : List (Option Int), inV .non (os.map optV) = os.any Option.isNone
  | [] => rfl
  | none :: os => rfl
  | some n :: os => by
    have := opt_in os
    show (eqV (.int n) .non || inV .non (os.map optV)) = (false || os.any Option.isNone)
    rw [this]
    rfl
theorem ev_tr : ∀ rs ss : List Ent, PyData.eqvAll (dTrips rs) (dTrips ss) = decide (rs = ss)
  | [], [] => by simp [dTrips, PyData.eqvAll]
  | [], _ :: _ => by simp [dTrips, PyData.eqvAll]
  | _ :: _, [] => by simp [dTrips, PyData.eqvAll]
  | (a, b, x) :: rs, (c, d, y) :: ss => by
    have ih := ev_tr rs ss
    show (PyData.eqv (.tuple [.int a, .int b, .int x]) (.tuple [.int c, .int d, .int y]) && PyData.eqvAll (dTrips rs) (dTrips ss)) = _
    rw [ih]
    simp [PyData.eqv, PyData.eqvAll, Bool.beq_eq_decide_eq]
theorem shaped_tt (rs : List Ent) : SeqAt.shaped (.tuple (dTrips rs)) = true :=
  shaped_of (by simp only [PyData.canLay0, lay_trips]) (by have := depth_trips rs; simp only [PyData.depth]; omega)
theorem none_tr : ∀ es : List Ent, ((dTrips es).any fun z => PyData.eqv z .none) = false
  | [] => rfl
  | e :: es => by
    show (PyData.eqv (.tuple [.int e.1, .int e.2.1, .int e.2.2]) .none || (dTrips es).any fun z => PyData.eqv z .none) = false
    rw [none_tr es]
    rfl
theorem strs_at {ws : List Str} {i : Nat} {y : V} (h : (ws.map V.str)[i]? = some y) : ∃ w, ws[i]? = some w ∧ y = .str w := by
  rw [List.getElem?_map] at h
  cases e : ws[i]? with
  | none => rw [e] at h; cases h
  | some r => rw [e] at h; exact ⟨r, rfl, (Option.some.inj h).symm⟩
theorem mk_tab {K : PySem.W.Frag} {C p : Addr} {H : Hp} {xs : List V} {T : List Ent} {Q : VK} {E : XK} (hp : Sq K H p xs) (tr : TripsAt H xs T) (le : T.length ≤ 30000) (q : ∀ H' x, Same H H' → H x = none → TabAt H' C x T → Q (.ref x) H') (x dx : Addr) (nx : H x = none) (ndx : H dx = none) (ne : dx ≠ x) :
    spTI K C [V.ref x, V.ref p] (upd (upd H dx (HO.own x)) x (HO.ins C dx [])) (fun v H2 => v = V.non ∧ Q (.ref x) H2) E := by
  have s2 : Same H (upd (upd H dx (.own x)) x (.ins C dx [])) := (same_new ndx).trans (same_new (by rw [upd_ne ne.symm]; exact nx))
  exact ⟨x, p, dx, xs, T, rfl, upd_same, hp.same s2, tr.same s2, le, fun H' keep tab => ⟨rfl, q H' x (fun b o e => keep b o (ne_of_none e nx) (s2 _ _ e)) nx tab⟩⟩
theorem row_len {e : Ent} (v : Val e) : (NX.row e).length ≤ 41 := by
  rw [← H8T.txE_row]
  exact H8T.txE_len ⟨Nat.lt_of_le_of_lt v.lo (by decide), Nat.lt_of_le_of_lt v.hi (by decide), by have := v.am; have := v.le; omega⟩
theorem nl_len : (("\n" : Str)).length = 1 := by decide +kernel
theorem txt_len {T : List Ent} (v : ∀ e ∈ T, Val e) (h : T.length ≤ 200) : (NX.txt T).length ≤ 8400 := by
  have := WN.join_len (sep := "\n") (B := 41) (xs := T.map NX.row) fun x hx => by
    obtain ⟨e, he, rfl⟩ := List.mem_map.mp hx
    exact row_len (v e he)
  rw [nl_len, List.length_map] at this
  show (Txt.join "\n" (T.map NX.row)).length ≤ 8400
  omega
theorem wds_len {e : Ent} (v : Val e) {x : Str} (h : x ∈ wds e) : x.length ≤ 1000000 := by
  unfold NX.wds at h
  simp only [List.mem_cons, List.not_mem_nil, or_false] at h
  have a3 : e.2.2.natAbs ≤ 1000000000 := by have := v.am; have := v.le; omega
  rcases h with rfl | rfl | rfl
  · exact Nat.le_trans (NX.len_int v.lo) (by decide)
  · exact Nat.le_trans (NX.len_int v.hi) (by decide)
  · exact Nat.le_trans (NX.len_int a3) (by decide)
section
variable {P : Program} {w : World} {K : PySem.W.Frag} {mg : Str → Option Value} {base : Heap}
def spNU : Sp := fun vs H Q _ => ∃ z : Int, vs = [.int z] ∧ Q (.bl true) H
theorem ok_NU {f : Addr} {fd : FuncData} {k : Nat} (F : Fun K "is_number" "is_number" sNU f fd) (ms : mg "isinstance" = none) (mi : mg "int" = none) (mb : mg "bool" = none) : FnOk P w K mg base CX0 (k + 1) f fd ["value"] spNU := by
  refine F.ok scNU (fun vs H Q E h => ?_) (fun cdv A outer s H vs Q E hr h => ?_)
  · obtain ⟨z, rfl, _⟩ := h
    rfl
  · obtain ⟨z, rfl, hq⟩ := h
    refine ⟨_, (pss_one (ps_ret (pe_and (pe_callB call_isi (by rfl) ms (by decide +kernel) (pa_cons (pv 0) (pa_cons (pe_bltn (v := .ty "int") (by rfl) mi (by decide +kernel) rfl) pa_nil))) (pe_one (pe_not (pe_callB call_isi (by rfl) ms (by decide +kernel) (pa_cons (pv 0) (pa_cons (pe_bltn (v := .ty "bool") (by rfl) mb (by decide +kernel) rfl) pa_nil)))))))), ?_⟩
    refine ⟨.int z, rfl, _, .ty "int", .type "int", .type "int", true, rfl, .ty "int", .base (.int _), kit_ty (by decide +kernel), true, rfl, iteT ?_⟩
    exact ⟨.int z, rfl, _, .ty "bool", .type "int", .type "bool", false, rfl, .ty "bool", .base (.int _), kit_ty (by decide +kernel), false, rfl, hq⟩
def spRD : Sp := fun vs H Q _ => ∃ z : Int, vs = [.int z] ∧ Q (.bl (decide (z.natAbs ≤ 1000000000))) H
theorem ok_RD {f : Addr} {fd : FuncData} {fNU : Addr} {dNU : FuncData} {k : Nat} (F : Fun K "is_reading" "is_reading" sRD f fd) (GNU : FnOk P w K mg base CX0 (k + 1) fNU dNU ["value"] spNU) (gNU : mg "is_number" = some (.ref fNU)) (kNU : PySem.W.keepIn K (.ref fNU) = true) (bNU : Binds K dNU ["value"] []) (ma : mg "abs" = none) (gL : ∃ u, mg "LIMIT" = some u ∧ RelV (.int 1000000000) u) : FnOk P w K mg base CX0 (k + 2) f fd ["value"] spRD := by
  refine F.ok scRD (fun vs H Q E h => ?_) (fun cdv A outer s H vs Q E hr h => ?_)
  · obtain ⟨z, rfl, _⟩ := h
    rfl
  · obtain ⟨z, rfl, hq⟩ := h
    refine ⟨_, (pss_one (ps_ret (pe_and (pe_call GNU hr (by rfl) gNU kNU bNU .nil pass0 (pa_cons (pv 0) pa_nil)) (pe_one (pe_cmpR op_le (pe_callB call_abs (by rfl) ma (by decide +kernel) (pa_cons (pv 0) pa_nil)) (C8.pe_gc (v := .int 1000000000) (by rfl) gL) (nomark _)))))), ?_⟩
    refine ⟨.int z, rfl, z, rfl, _, rfl, iteT ⟨.int z, rfl, _, rfl, _, _, rfl, rfl, ?_⟩⟩
    show Q (V.bl (decide _)) H
    have e : decide ((if z < 0 then -z else z) ≤ 1000000000) = decide (z.natAbs ≤ 1000000000) := by
      congr 1
      apply propext
      split <;> omega
    rw [e]
    exact hq
def spNM : Sp := fun vs H Q _ => ∃ x : Str, vs = [.str x] ∧ x.length ≤ 4300 ∧ Q (.bl (isNum x)) H
theorem ok_NM {f : Addr} {fd : FuncData} {k : Nat} (F : Fun K "is_numeral" "is_numeral" sNM f fd)  : FnOk P w K mg base CX0 (k + 1) f fd ["word"] spNM := by
  refine F.ok scNM (fun vs H Q E h => ?_) (fun cdv A outer s H vs Q E hr h => ?_)
  · obtain ⟨x, rfl, _⟩ := h
    rfl
  · obtain ⟨x, rfl, hl, hq⟩ := h
    refine ⟨_, (pss_cons (ps_set (i := 1) scNM.nd rfl (.inl rfl) (pe_m1 PySem.F.slot_str_removeprefix PySem.F.type_str_removeprefix mt_removeprefix (pv 0) pe_str))
      (pss_cons (ps_if (PW.pt (pw_or (pt_not (pt_val (pe_m0 PySem.F.slot_str_isascii PySem.F.type_str_isascii mt_isascii (pv 1)))) (pw_or1 (pt_not (pt_val (pe_m0 PySem.F.slot_str_isdigit PySem.F.type_str_isdigit mt_isdigit (pv 1))))))) (pss_one (ps_ret pe_bl)) pss_nil)
      (pss_one (ps_ret (pe_or (pe_cmpR op_eq (pv 0) pe_str (nomark _)) (pe_one (pe_not (pe_m1 PySem.F.slot_str_startswith PySem.F.type_str_startswith mt_startswith (pv 1) pe_str)))))))), ?_⟩
    have sl : x.length ≤ sizeLine := Nat.le_trans hl (by decide)
    refine ⟨.str x, rfl, ⟨_, rfl⟩, x, "-", rfl, rfl, sl, ?_⟩
    unfold isNum at hq
    generalize Txt.removeprefix x "-" = d at hq ⊢
    refine ⟨.str d, rfl, ⟨_, rfl⟩, d, rfl, rfl, trivial, _, rfl, ?_⟩
    cases ha : Txt.isascii d with
    | false =>
      rw [ha] at hq
      exact iteT hq
    | true =>
      refine iteF ⟨.str d, rfl, ⟨_, rfl⟩, d, rfl, rfl, trivial, _, rfl, ?_⟩
      cases hd : Txt.isdigit d with
      | false =>
        rw [ha, hd] at hq
        exact iteT hq
      | true =>
        rw [ha, hd] at hq
        refine iteF ⟨.str x, rfl, rfl, _, rfl, ?_⟩
        by_cases e : x = "0"
        · rw [show (x == "0") = true from beq_iff_eq.mpr e] at hq
          rw [decide_eq_true (show V.str x = V.str "0" by rw [e])]
          exact iteT hq
        · rw [show (x == "0") = false from beq_eq_false_iff_ne.mpr e] at hq
          rw [decide_eq_false (show ¬ V.str x = V.str "0" from fun z => e (V.str.inj z))]
          exact iteF ⟨.str d, rfl, ⟨_, rfl⟩, d, "0", rfl, rfl, _, rfl, hq⟩
def spRO : Sp := fun vs H Q _ => ∃ x : Str, vs = [.str x] ∧ x.length ≤ 1000000 ∧ Q (optV (rdw x)) H
theorem ok_RO {f : Addr} {fd : FuncData} {fRD : Addr} {dRD : FuncData} {fNM : Addr} {dNM : FuncData} {k : Nat} (F : Fun K "reading_of" "reading_of" sRO f fd) (GRD : FnOk P w K mg base CX0 (k + 2) fRD dRD ["value"] spRD) (gRD : mg "is_reading" = some (.ref fRD)) (kRD : PySem.W.keepIn K (.ref fRD) = true) (bRD : Binds K dRD ["value"] []) (GNM : FnOk P w K mg base CX0 (k + 1) fNM dNM ["word"] spNM) (gNM : mg "is_numeral" = some (.ref fNM)) (kNM : PySem.W.keepIn K (.ref fNM) = true) (bNM : Binds K dNM ["word"] []) (ml : mg "len" = none) (mi : mg "int" = none) (gLo : ∃ u, mg "LONGEST" = some u ∧ RelV (.int 11) u) : FnOk P w K mg base CX0 (k + 3) f fd ["word"] spRO := by
  refine F.ok scRO (fun vs H Q E h => ?_) (fun cdv A outer s H vs Q E hr h => ?_)
  · obtain ⟨x, rfl, _⟩ := h
    rfl
  · obtain ⟨x, rfl, hl, hq⟩ := h
    refine ⟨_, (pss_cons (ps_if (PW.pt (pw_or (pt_cmpR op_gt (pe_callB call_len_str (by rfl) ml PySem.boot_len (pa_cons (pv 0) pa_nil)) (C8.pe_gc (v := .int 11) (by rfl) gLo) (nomark _)) (pw_or1 (pt_not (pt_val (pe_call (GNM.mono (show k + 1 ≤ k + 2 by omega)) hr (by rfl) gNM kNM bNM .nil pass0 (pa_cons (pv 0) pa_nil))))))) (pss_one (ps_ret pe_non)) pss_nil)
      (pss_cons (ps_set (i := 1) scRO.nd rfl (.inl rfl) (pe_callTy call_int_str (by rfl) mi (by decide +kernel) (pa_cons (pv 0) pa_nil)))
      (pss_one (ps_ret (pe_ifExp (pt_val (pe_call (GRD.mono (show k + 2 ≤ k + 2 by omega)) hr (by rfl) gRD kRD bRD .nil pass0 (pa_cons (pv 1) pa_nil))) (pv 1) pe_non))))), ?_⟩
    refine ⟨.str x, rfl, x, rfl, Nat.le_trans hl (by decide), _, 11, rfl, rfl, _, rfl, ?_⟩
    by_cases c : 11 < x.length
    · rw [decide_eq_true (show (11 : Int) < (x.length : Int) by omega)]
      have e : rdw x = none := by
        unfold NX.rdw
        rw [decide_eq_true c]
        rfl
      rw [e] at hq
      exact iteT hq
    · rw [decide_eq_false (show ¬ (11 : Int) < (x.length : Int) by omega)]
      refine iteF ⟨.str x, rfl, x, rfl, by omega, _, rfl, ?_⟩
      cases hn : isNum x with
      | false =>
        have e : rdw x = none := by
          unfold NX.rdw
          rw [decide_eq_false c, hn]
          rfl
        rw [e] at hq
        exact iteT hq
      | true =>
        obtain ⟨n, en⟩ := NX.num_reads hn (by omega)
        have e : rdw x = if n.natAbs ≤ 1000000000 then some n else none := by
          unfold NX.rdw
          rw [decide_eq_false c, hn, en]
          rfl
        refine iteF ⟨.str x, rfl, x, n, rfl, en, by omega, ?_⟩
        refine ⟨.int n, rfl, n, rfl, _, rfl, ?_⟩
        by_cases b : n.natAbs ≤ 1000000000
        · rw [decide_eq_true b]
          rw [e, if_pos b] at hq
          exact iteT ⟨.int n, rfl, hq⟩
        · rw [decide_eq_false b]
          rw [e, if_neg b] at hq
          exact iteF hq
def spEO : Sp := fun vs H Q _ => ∃ (a : Addr) (ws : List Str), vs = [.ref a] ∧ H a = some (.lst (ws.map V.str)) ∧ ws.length ≤ 30000 ∧ (∀ x ∈ ws, x.length ≤ 1000000) ∧
  (∀ H', Same H H' → entw ws = none → Q .non H') ∧ (∀ H' p e, Same H H' → entw ws = some e → H' p = some (tri e) → Q (.ref p) H')
theorem ok_EO {f : Addr} {fd : FuncData} {fRO : Addr} {dRO : FuncData} {k : Nat} (F : Fun K "entry_of" "entry_of" sEO f fd) (GRO : FnOk P w K mg base CX0 (k + 3) fRO dRO ["word"] spRO) (gRO : mg "reading_of" = some (.ref fRO)) (kRO : PySem.W.keepIn K (.ref fRO) = true) (bRO : Binds K dRO ["word"] []) (mlen : mg "len" = none) (gG : ∃ u, mg "GREATEST" = some u ∧ RelV (.int 1000000) u) : FnOk P w K mg base CX0 (k + 4) f fd ["words"] spEO := by
  refine F.ok scEO (fun vs H Q E h => ?_) (fun cdv A outer s H vs Q E hr h => ?_)
  · obtain ⟨a, ws, rfl, _⟩ := h
    rfl
  · obtain ⟨a, ws, rfl, hA, hl, hw, hn, hs⟩ := h
    refine ⟨_, (pss_cons (ps_setLc (i := 1) (own := [("word", 5)]) (g := gName 5) (tt := tYes) (te := tCall spRO [] E0 (tCons (tVar 5) tNil)) rfl scEO.nd rfl rfl (sw_true rfl rfl rfl (by decide +kernel)) (pi_list (pv 0)) (blkOk_by (own := [("word", 5)]) (N := ["words", "numbers", "low", "high", "amount", "word"]) (sc := defScope sEO) (by decide +kernel)) (fun _ _ _ _ _ => (pg_name (i := 5) scEO.nd rfl (Or.inl rfl) (Or.inr rfl))) (fun _ _ _ _ _ => pts_nil) (fun _ _ _ _ _ => (pe_call GRO hr (by rfl) gRO kRO bRO .nil pass0 (pa_cons (pv 5) pa_nil))))
      (pss_cons (ps_if (PW.pt (pw_or (pt_cmpR op_ne (pe_callB call_len_seq (by rfl) mlen PySem.boot_len (pa_cons (pv 1) pa_nil)) pe_int (nomark _)) (pw_or1 (pt_cmpR op_in_seq pe_non (pv 1) (by rfl))))) (pss_one (ps_ret pe_non)) pss_nil)
      (pss_cons (ps_asg (pv 1) (pg_unl rfl (pgs_cons (pg_name (i := 2) scEO.nd rfl (.inl rfl)) (pgs_cons (pg_name (i := 3) scEO.nd rfl (.inl rfl)) (pgs_cons (pg_name (i := 4) scEO.nd rfl (.inl rfl)) pgs_nil)))))
      (pss_cons (ps_if (PW.pt (pw_or (pt_cmpR op_ge (pv 2) (pv 3) (nomark _)) (pw_or (pt_cmpR op_lt (pv 4) pe_int (nomark _)) (pw_or1 (pt_cmpR op_gt (pv 4) (C8.pe_gc (v := .int 1000000) (by rfl) gG) (nomark _)))))) (pss_one (ps_ret pe_non)) pss_nil)
      (pss_one (ps_ret (pe_tup (pa_cons (pv 2) (pa_cons (pv 3) (pa_cons (pv 4) pa_nil)))))))))), ?_⟩
    refine ⟨.ref a, rfl, a, rfl, ⟨_, SqL.of hA⟩, fun D nD => ?_⟩
    refine lc_list (K := K) (a := a) (xs := ws.map V.str) (fun i Hz => Same H Hz ∧ Hz D = some (.lst (((ws.take i).map rdw).map optV))) ⟨same_new nD, upd_same⟩ (fun i Hz _ z => SqL.of (z.1 _ _ hA)) ?_ ?_
    · rintro i y Hz hy ⟨sz, eD⟩
      obtain ⟨x, hx, rfl⟩ := strs_at hy
      have hi := (List.getElem?_eq_some_iff.mp hx).1
      refine ⟨rfl, iteT (B := True) ⟨.str x, rfl, x, rfl, hw x (List.mem_of_getElem? hx), _, eD, ?_, same_again nD sz, ?_⟩⟩
      · rw [List.length_map, List.length_map, List.length_take]; exact Nat.lt_of_le_of_lt (show _ ≤ 30000 by omega) (by decide)
      · rw [upd_same, List.take_add_one, hx, List.map_append, List.map_append]; rfl
    rintro H1 ⟨s1, eD⟩
    rw [List.length_map, List.take_length] at eD
    unfold entw at hn hs
    generalize ws.map rdw = os at hn hs eD
    refine ⟨.ref D, rfl, D, _, rfl, .inl (SqL.of eD), rfl, _, rfl, ?_⟩
    have el : V.int ((os.map optV).length : Int) = V.int 3 ↔ os.length = 3 := by
      rw [List.length_map]
      constructor
      · intro z; have := V.int.inj z; omega
      · intro z; rw [z]; rfl
    by_cases l3 : os.length = 3
    · rw [decide_eq_true (el.mpr l3)]
      refine iteF ⟨.ref D, rfl, D, _, rfl, .inl (SqL.of eD), rfl, opt_flat _, _, rfl, ?_⟩
      rw [opt_in]
      match os, l3 with
      | [none, _, _], _ => exact iteT (hn _ s1 rfl)
      | [some _, none, _], _ => exact iteT (hn _ s1 rfl)
      | [some _, some _, none], _ => exact iteT (hn _ s1 rfl)
      | [some a, some b, some c], _ =>
        have no : okE a b c = false → Q .non H1 := fun z => hn _ s1 (by show (if okE a b c = true then some (a, b, c) else none) = none; rw [z]; rfl)
        refine iteF ⟨.ref D, rfl, D, _, rfl, SqL.of eD, rfl, .int a, [.int b, .int c], rfl, .int b, [.int c], rfl, .int c, [], rfl, rfl, ?_⟩
        refine ⟨.int a, rfl, .int b, rfl, a, b, rfl, rfl, _, rfl, ?_⟩
        by_cases c1 : b ≤ a
        · rw [decide_eq_true c1]
          exact iteT (no (by unfold okE; rw [decide_eq_true c1]; rfl))
        rw [decide_eq_false c1]
        refine iteF ⟨.int c, rfl, c, 0, rfl, rfl, _, rfl, ?_⟩
        by_cases c2 : c < 0
        · rw [decide_eq_true c2]
          exact iteT (no (by unfold okE; rw [decide_eq_false c1, decide_eq_true c2]; rfl))
        rw [decide_eq_false c2]
        refine iteF ⟨.int c, rfl, c, 1000000, rfl, rfl, _, rfl, ?_⟩
        by_cases c3 : 1000000 < c
        · rw [decide_eq_true c3]
          exact iteT (no (by unfold okE; rw [decide_eq_false c1, decide_eq_false c2, decide_eq_true c3]; rfl))
        rw [decide_eq_false c3]
        refine iteF ⟨.int a, rfl, .int b, rfl, .int c, rfl, by show 3 ≤ sizeLine; decide, fun p np => hs _ p (a, b, c) (s1.trans (same_new np)) ?_ upd_same⟩
        show (if okE a b c = true then some (a, b, c) else none) = some (a, b, c)
        have e : okE a b c = true := by unfold okE; rw [decide_eq_false c1, decide_eq_false c2, decide_eq_false c3]; rfl
        rw [e]
        rfl
    · rw [decide_eq_false (fun z => l3 (el.mp z))]
      refine iteT (hn _ s1 ?_)
      split <;> first | rfl | exact absurd rfl l3
def spPA (C : Addr) : Sp := fun vs H Q _ => ∃ (T : List Ent), vs = [.ref C, .str (NX.txt T)] ∧ (∀ e ∈ T, Val e) ∧ T.length ≤ 200 ∧ ∀ H' x, Same H H' → TabAt H' C x T → Q (.ref x) H'
theorem ok_PA {f : Addr} {fd : FuncData} {fEO : Addr} {dEO : FuncData} {fTI : Addr} {dTI : FuncData} {C : Addr} {k : Nat} (F : Fun K "parse" "Table.parse" sPA f fd) (GEO : FnOk P w K mg base CX0 (k + 4) fEO dEO ["words"] spEO) (gEO : mg "entry_of" = some (.ref fEO)) (kEO : PySem.W.keepIn K (.ref fEO) = true) (bEO : Binds K dEO ["words"] []) (mk : Mk K C fTI) (GTI : FnOk P w K mg base CX0 (k + 1) fTI dTI ["self", "entries"] (spTI K C)) (bTI : Binds K dTI ["self", "entries"] []) : FnOk P w K mg base CX0 (k + 5) f fd ["cls", "text"] (spPA C) := by
  refine F.ok scPA (fun vs H Q E h => ?_) (fun cdv A outer s H vs Q E hr h => ?_)
  · obtain ⟨T, rfl, _⟩ := h
    rfl
  · obtain ⟨T, rfl, va, hl, hq⟩ := h
    refine ⟨_, (pss_cons (ps_if (pt_cmpR op_eq (pv 1) pe_str (nomark _)) (pss_one (ps_ret (pe_makeL (i := 0) mk (GTI.mono (show k + 1 ≤ k + 3 by omega)) hr rfl (.inl rfl) bTI .nil pass0 (pa_cons (pe_lst pa_nil) pa_nil)))) pss_nil)
      (pss_cons (ps_setLc (i := 2) (own := [("row", 3)]) (g := gName 3) (tt := tYes)  rfl scPA.nd rfl rfl (sw_true rfl rfl rfl (by decide +kernel)) (pi_list (pe_split (pv 1) pe_str)) (blkOk_by (own := [("row", 3)]) (N := ["cls", "text", "entries", "row"]) (sc := defScope sPA) (by decide +kernel)) (fun _ _ _ _ _ => (pg_name (i := 3) scPA.nd rfl (Or.inl rfl) (Or.inr rfl))) (fun _ _ _ _ _ => pts_nil) (fun _ _ _ _ _ => (pe_call (GEO.mono (show k + 4 ≤ k + 4 by omega)) hr (by rfl) gEO kEO bEO .nil pass0 (pa_cons (pe_split (pv 3) pe_str) pa_nil))))
      (pss_cons (ps_if (pt_cmpR (op_inD (Nat.lt_of_le_of_lt (Nat.add_le_add_left (by decide) _) (XT.hu_of hr))) pe_non (pv 2) (by rfl)) pss_never pss_nil)
      (pss_one (ps_ret (pe_makeL (i := 0) mk (GTI.mono (show k + 1 ≤ k + 3 by omega)) hr rfl (.inl rfl) bTI .nil pass0 (pa_cons (pv 2) pa_nil))))))), ?_⟩
    refine ⟨.str (NX.txt T), rfl, rfl, _, rfl, ?_⟩
    by_cases hT : T = []
    · subst hT
      rw [decide_eq_true (show V.str (NX.txt []) = V.str "" by rw [NX.txt_nil])]
      refine iteT ⟨rfl, Nat.zero_le _, fun p np => ?_⟩
      exact mk_tab (T := []) (.inl (SqL.of upd_same)) trivial (by decide) fun H' x s _ tab => hq H' x ((same_new np).trans s) tab
    · rw [decide_eq_false (show ¬ V.str (NX.txt T) = V.str "" from fun z => NX.txt_ne hT (V.str.inj z))]
      have ll := txt_len va hl
      refine iteF ⟨.str (NX.txt T), rfl, ⟨_, rfl⟩, NX.txt T, "\n", rfl, rfl, by decide +kernel, Nat.le_trans (Nat.add_le_add_right ll 2) (by decide), fun S nS => ?_⟩
      rw [NX.split_txt hT]
      have sS := same_new (o := .lst ((T.map NX.row).map V.str)) nS
      have eS := upd_same (H := H) (a := S) (o := .lst ((T.map NX.row).map V.str))
      generalize upd H S (.lst ((T.map NX.row).map V.str)) = H0 at sS eS ⊢
      refine ⟨S, rfl, ⟨_, SqL.of eS⟩, fun D nD => ?_⟩
      refine lc_list (K := K) (a := S) (xs := (T.map NX.row).map V.str) (fun i Hz => Same H0 Hz ∧ ∃ acc, Hz D = some (.lst acc) ∧ TripsAt Hz acc (T.take i)) ⟨same_new nD, [], upd_same, trivial⟩ (fun i Hz _ z => SqL.of (z.1 _ _ eS)) ?_ ?_
      · rintro i y Hz hy ⟨sz, acc, eD, tr⟩
        obtain ⟨x, hx, rfl⟩ := strs_at hy
        rw [List.getElem?_map] at hx
        obtain ⟨e, he, rfl⟩ := Option.map_eq_some_iff.mp hx
        have hi := (List.getElem?_eq_some_iff.mp he).1
        have ve := va e (List.mem_of_getElem? he)
        refine ⟨rfl, iteT (B := True) ⟨.str (NX.row e), rfl, ⟨_, rfl⟩, NX.row e, " ", rfl, rfl, by decide +kernel, Nat.le_trans (Nat.add_le_add_right (row_len ve) 2) (by decide), fun W nW => ?_⟩⟩
        rw [NX.split_row]
        have sW := same_new (o := .lst ((wds e).map V.str)) nW
        have eW := upd_same (H := Hz) (a := W) (o := .lst ((wds e).map V.str))
        generalize upd Hz W (.lst ((wds e).map V.str)) = H2 at sW eW ⊢
        refine ⟨W, wds e, rfl, eW, by show 3 ≤ 30000; decide, fun x hx => wds_len ve hx, fun H' s z => (by rw [NX.entw_of ve] at z; cases z), fun H' p e2 s z hp => ?_⟩
        rw [NX.entw_of ve] at z
        cases z
        have s3 := (sW.trans s)
        have al := tr.length
        rw [List.length_take] at al
        refine ⟨acc, s3 _ _ eD, Nat.lt_of_le_of_lt (show acc.length ≤ 3000 by omega) (by decide), same_again nD (sz.trans s3), acc ++ [.ref p], upd_same, ?_⟩
        rw [List.take_add_one, he]
        exact ((tr.same s3).app (trips_one hp)).but (fun b o n e => by rw [upd_ne n]; exact e) (s3 _ _ eD)
      rintro H1 ⟨s1, acc, eD, tr⟩
      rw [List.length_map, List.length_map, List.take_length] at tr
      refine ⟨.ref D, rfl, .none, dTrips T, .non, .lst (SqL.of eD) (dp_trips tr), by decide +kernel, shaped_trips T, _, rfl, ?_⟩
      rw [none_tr]
      refine iteF ⟨rfl, .ref D, rfl, ?_⟩
      exact mk_tab (.inl (SqL.of eD)) tr (by omega) fun H' x s _ tab => hq H' x (sS.trans (s1.trans s)) tab
def spEQ (C : Addr) : Sp := fun vs H Q _ => ∃ (x y : Addr) (T U : List Ent), vs = [.ref x, .ref y] ∧ TabAt H C x T ∧ TabAt H C y U ∧ T.length ≤ 200 ∧ U.length ≤ 200 ∧ Q (.bl (decide (T = U))) H
def spEQo (K : PySem.W.Frag) (C : Addr) : Sp := fun vs H Q _ => ∃ (x : Addr) (y : V) (t : Value), vs = [.ref x, y] ∧ TyX K H y t ∧ PySem.W.kitOne K t (.ref C) = some false ∧ Q (.bl false) H
def spEQa (K : PySem.W.Frag) (C : Addr) : Sp := fun vs H Q E => spEQ C vs H Q E ∨ spEQo K C vs H Q E
theorem ok_EQ {f : Addr} {fd : FuncData} {C : Addr} {k : Nat} (F : Fun K "__eq__" "Table.__eq__" sEQ f fd) (T : Tbl K C) (S : C8.InsC K C) (gC : mg "Table" = some (.ref C)) (mi : mg "isinstance" = none) : FnOk P w K mg base CX0 (k + 1) f fd ["self", "other"] (spEQ C) := by
  refine F.ok scEQ (fun vs H Q E h => ?_) (fun cdv A outer s H vs Q E hr h => ?_)
  · obtain ⟨x, y, T, U, rfl, _⟩ := h
    rfl
  · obtain ⟨x, y, T', U, rfl, ⟨dx, t1, ys, h1, h2, h3⟩, ⟨dy, u1, zs, g1, g2, g3⟩, _, _, hq⟩ := h
    refine ⟨_, pss_one (ps_ret (pe_and (pe_callB (C8.call_isC S) (by rfl) mi (by decide +kernel) (pa_cons (pv 1) (pa_cons (pe_glob (v := .ref C) (by rfl) gC rfl) pa_nil)))
      (pe_one (pe_cmpR (op_eqD hr.units) (pe_fld (pv 0) rfl) (pe_fld (pv 1) rfl) (nomark _))))), ?_⟩
    have e1 := ev_tr T' U
    refine ⟨.ref y, rfl, y, dy, _, rfl, g1, true, rfl, iteT ?_⟩
    refine ⟨.ref x, rfl, x, C, dx, _, .ref t1, rfl, h1, T.cl, T.nE, rfl, .ref y, rfl, y, C, dy, _, .ref u1, rfl, g1, T.cl, T.nE, rfl, .tuple (dTrips T'), .tuple (dTrips U), .tup (SqT.of h2) (dp_trips h3), .tup (SqT.of g2) (dp_trips g3), shaped_tt _, shaped_tt _, ?_⟩
    rw [show PyData.eqv (.tuple (dTrips T')) (.tuple (dTrips U)) = decide (T' = U) from by rw [← e1]; rfl]
    exact hq
theorem ok_EQo {f : Addr} {fd : FuncData} {C : Addr} {k : Nat} (F : Fun K "__eq__" "Table.__eq__" sEQ f fd) (gC : mg "Table" = some (.ref C)) (mi : mg "isinstance" = none) : FnOk P w K mg base CX0 (k + 1) f fd ["self", "other"] (spEQo K C) := by
  refine F.ok scEQ (fun vs H Q E h => ?_) (fun cdv A outer s H vs Q E hr h => ?_)
  · obtain ⟨x, y, t, rfl, _⟩ := h
    rfl
  · obtain ⟨x, y, t, rfl, ty, kt, hq⟩ := h
    refine ⟨_, pss_one (ps_ret (pe_and (pe_callB call_isi (by rfl) mi (by decide +kernel) (pa_cons (pv 1) (pa_cons (pe_glob (v := .ref C) (by rfl) gC rfl) pa_nil)))
      (pe_one (pe_cmpR (op_eqD hr.units) (pe_fld (pv 0) rfl) (pe_fld (pv 1) rfl) (nomark _))))), ?_⟩
    exact ⟨y, rfl, y, .ref C, t, .ref C, false, rfl, .own C, ty, kt, false, rfl, iteF hq⟩
theorem ok_EQa {f : Addr} {fd : FuncData} {C : Addr} {k : Nat} (F : Fun K "__eq__" "Table.__eq__" sEQ f fd) (T : Tbl K C) (S : C8.InsC K C) (gC : mg "Table" = some (.ref C)) (mi : mg "isinstance" = none) : FnOk P w K mg base CX0 (k + 1) f fd ["self", "other"] (spEQa K C) := both (ok_EQ F T S gC mi) (ok_EQo F gC mi)
end
end Z5K

/-! texts split and joined again; words that are numerals; the table that a text is of -/
namespace NY
open PySem TL NumText NX
/-- one sign as a separator -/
theorem joinL_cons {S p : List Nat} {L : List (List Nat)} (h : L ≠ []) : joinL S (p :: L) = p ++ (S ++ joinL S L) := by
  cases L with
  | nil => exact absurd rfl h
  | cons q r => rfl
theorem pre1 (s c : Nat) (r : List Nat) : pre [s] (c :: r) = decide (c = s) := by
  unfold pre
  show ([c] == [s]) = _
  by_cases e : c = s
  · rw [e, decide_eq_true rfl]; exact beq_self_eq_true _
  · rw [decide_eq_false e]; exact beq_eq_false_iff_ne.mpr fun z => e (List.cons.inj z).1
theorem spl_ne (s : Nat) : ∀ (l acc : List Nat), spl [s] 0 acc l ≠ []
  | [], acc => by rw [spl_nil]; simp
  | c :: r, acc => by
    by_cases e : c = s
    · rw [spl_hit (by rw [pre1]; exact decide_eq_true e)]; simp
    · rw [spl_miss (by rw [pre1]; exact decide_eq_false e)]; exact spl_ne s r _
theorem joinL_spl (s : Nat) : ∀ (l acc : List Nat), joinL [s] (spl [s] 0 acc l) = acc ++ l
  | [], acc => by rw [spl_nil, List.append_nil]; rfl
  | c :: r, acc => by
    by_cases e : c = s
    · rw [spl_hit (by rw [pre1]; exact decide_eq_true e)]
      show joinL [s] (acc :: spl [s] 0 [] r) = _
      rw [joinL_cons (spl_ne s r []), joinL_spl s r [], e]
      rfl
    · rw [spl_miss (by rw [pre1]; exact decide_eq_false e), joinL_spl s r (acc ++ [c]), List.append_assoc]
      rfl
theorem spl_count (s : Nat) : ∀ (l acc : List Nat), (spl [s] 0 acc l).length ≤ l.length + 1
  | [], acc => by rw [spl_nil]; exact Nat.le_refl _
  | c :: r, acc => by
    by_cases e : c = s
    · rw [spl_hit (by rw [pre1]; exact decide_eq_true e)]
      have := spl_count s r []
      show (spl [s] 0 [] r).length + 1 ≤ _
      rw [List.length_cons]; omega
    · rw [spl_miss (by rw [pre1]; exact decide_eq_false e)]
      have := spl_count s r (acc ++ [c])
      rw [List.length_cons]; omega
theorem spl_part (s : Nat) : ∀ (l acc : List Nat), ∀ p ∈ spl [s] 0 acc l, p.length ≤ acc.length + l.length
  | [], acc, p, h => by rw [spl_nil, List.mem_singleton] at h; rw [h]; exact Nat.le_refl _
  | c :: r, acc, p, h => by
    by_cases e : c = s
    · rw [spl_hit (by rw [pre1]; exact decide_eq_true e)] at h
      rcases List.mem_cons.mp h with h | h
      · rw [h]; exact Nat.le_add_right _ _
      · have := spl_part s r [] p h
        rw [List.length_cons]
        have e0 : ([] : List Nat).length = 0 := rfl
        omega
    · rw [spl_miss (by rw [pre1]; exact decide_eq_false e)] at h
      have := spl_part s r (acc ++ [c]) p h
      rw [List.length_append, List.length_singleton] at this
      rw [List.length_cons]; omega
section
variable {y : Str} {s : Nat}
theorem split_map (ey : tl y = [s]) (hk : y.cps.all (· < 256) = true) (x : Str) : (Txt.split x y).map tl = spl [s] 0 [] (tl x) := by
  rw [split_spl x y (by rw [ey]; simp) (kind_ok hk), ey]
theorem join_split (ey : tl y = [s]) (hk : y.cps.all (· < 256) = true) (x : Str) : Txt.join y (Txt.split x y) = x := by
  refine ext_tl ?_
  rw [join_eq, tl_join, split_map ey hk, ey, joinL_spl]
  rfl
theorem split_count (ey : tl y = [s]) (hk : y.cps.all (· < 256) = true) (x : Str) : (Txt.split x y).length ≤ x.length + 1 := by
  have := spl_count s (tl x) []
  rw [← split_map ey hk, List.length_map, ← len_tl] at this
  exact this
theorem split_part (ey : tl y = [s]) (hk : y.cps.all (· < 256) = true) (x : Str) : ∀ p ∈ Txt.split x y, p.length ≤ x.length := fun p hp => by
  have := spl_part s (tl x) [] (tl p) (by rw [← split_map ey hk]; exact List.mem_map.mpr ⟨p, hp, rfl⟩)
  rw [len_tl, len_tl x]
  have e0 : ([] : List Nat).length = 0 := rfl
  omega
end
/-! ### words -/
theorem digitsVal_snoc (cs : List Nat) (c : Nat) : digitsVal (cs ++ [c]) = digitsVal cs * 10 + (c - 48) := by
  unfold digitsVal
  rw [List.foldl_append]
  rfl
theorem val_pos {c : Nat} {l : List Nat} (h : AllDigits (c :: l)) (hc : c ≠ 48) : 0 < digitsVal (c :: l) := by
  have h0 := h c List.mem_cons_self
  have gen : ∀ (l : List Nat) (a : Nat), 0 < a → 0 < l.foldl (fun acc c => acc * 10 + (c - 48)) a := by
    intro l
    induction l with
    | nil => intro a h; exact h
    | cons d l ih => intro a h; exact ih _ (by show 0 < a * 10 + _; omega)
  show 0 < l.foldl (fun acc c => acc * 10 + (c - 48)) (0 * 10 + (c - 48))
  exact gen l _ (by omega)
/-- digits without a leading zero are those of their number -/
theorem numL_of : ∀ (n : Nat) (cs : List Nat), cs.length = n → AllDigits cs → cs ≠ [] → (cs = [48] ∨ cs.head? ≠ some 48) → numL (digitsVal cs) = cs := by
  intro n
  induction n with
  | zero => intro cs hl _ hne; exact absurd (List.length_eq_zero_iff.mp hl) hne
  | succ n ih =>
    intro cs hl hd hne hz
    rcases List.eq_nil_or_concat cs with e | ⟨ds, c, e⟩
    · exact absurd e hne
    rw [List.concat_eq_append] at e
    subst e
    have hc := hd c (by simp)
    rw [digitsVal_snoc]
    cases ds with
    | nil =>
      show numL (0 * 10 + (c - 48)) = [c]
      rw [numL_lt (by omega)]
      congr 1
      omega
    | cons d ds =>
      have hd2 : AllDigits (d :: ds) := fun x hx => hd x (List.mem_append_left _ hx)
      have h48 : d ≠ 48 := by
        rcases hz with z | z
        · have := congrArg List.length z
          simp at this
        · intro k; exact z (by rw [k]; rfl)
      have hp := val_pos hd2 h48
      have hl2 : (d :: ds).length = n := by
        rw [List.length_append, List.length_singleton] at hl
        omega
      have e := ih (d :: ds) hl2 hd2 (by simp) (.inr (by intro k; exact h48 (Option.some.inj k)))
      rw [numL_step (by omega)]
      rw [show (digitsVal (d :: ds) * 10 + (c - 48)) / 10 = digitsVal (d :: ds) by omega, e]
      congr 1
      congr 1
      omega
theorem starts_iff {d : Str} (hne : tl d ≠ []) : Txt.startswith d "0" = decide ((tl d).head? = some 48) := by
  cases hd : tl d with
  | nil => exact absurd hd hne
  | cons c l =>
    by_cases e : c = 48
    · rw [decide_eq_true (by rw [e]; rfl)]
      unfold Txt.startswith
      rw [ze, sub0, NX.len1, hd, e]
      have : decide (0 + 1 ≤ d.length) = true := decide_eq_true (by rw [len_tl, hd]; show 0 + 1 ≤ l.length + 1; omega)
      rw [this]
      rfl
    · rw [decide_eq_false (by intro z; exact e (Option.some.inj z)), starts0 hd e]
/-- a numeral is the text of the int that it writes -/
theorem num_back {w : Str} (h : isNum w = true) (hl : w.length ≤ 4300) : ∃ n, intText? w = some n ∧ w = tI n := by
  unfold isNum at h
  rw [Bool.and_eq_true] at h
  obtain ⟨h0, hz⟩ := h
  obtain ⟨h1, h2⟩ := both_dig.mp h0
  by_cases c : ∃ l, tl w = 45 :: l
  · obtain ⟨l, e⟩ := c
    have er := rp_neg e
    have hw : (w == "0") = false := by
      rw [beq_eq_false_iff_ne]
      intro z
      rw [z, ze] at e
      cases e
    rw [hw, Bool.false_or, starts_iff h2, er] at hz
    rw [er] at h1 h2
    have hz2 : l.head? ≠ some 48 := by simpa using hz
    refine ⟨_, intText_neg e h1 h2 hl, ext_tl ?_⟩
    have e3 := numL_of l.length l rfl h1 h2 (.inr hz2)
    have hpos : 0 < digitsVal l := by
      cases l with
      | nil => exact absurd rfl h2
      | cons c r => exact val_pos h1 fun k => hz2 (by rw [k]; rfl)
    rw [tl_int, if_pos (by omega), Int.natAbs_neg, Int.natAbs_natCast, e3, e]
  · have er := rp_pos (w := w) fun l z => c ⟨l, z⟩
    rw [er] at h1 h2 hz
    refine ⟨_, intText_digits h1 h2 hl, ext_tl ?_⟩
    have hz2 : tl w = [48] ∨ (tl w).head? ≠ some 48 := by
      by_cases k : (w == "0") = true
      · left
        rw [eq_of_beq k, ze]
      · right
        rw [Bool.not_eq_true] at k
        rw [k, Bool.false_or, starts_iff h2] at hz
        simpa using hz
    have e3 := numL_of (tl w).length (tl w) rfl h1 h2 hz2
    rw [tl_int, if_neg (by omega), Int.natAbs_natCast]
    exact e3.symm
theorem rdw_back {w : Str} {n : Int} (h : rdw w = some n) : w = tI n ∧ n.natAbs ≤ 1000000000 := by
  unfold rdw at h
  by_cases c : (decide (11 < w.length) || !isNum w) = true
  · rw [if_pos c] at h; cases h
  · rw [if_neg c] at h
    rw [Bool.not_eq_true, Bool.or_eq_false_iff] at c
    obtain ⟨c1, c2⟩ := c
    have hl : w.length ≤ 11 := by have := of_decide_eq_false c1; omega
    obtain ⟨m, e1, e2⟩ := num_back (w := w) (by simpa using c2) (by omega)
    rw [e1] at h
    by_cases b : m.natAbs ≤ 1000000000
    · have h2 : (if m.natAbs ≤ 1000000000 then some m else none) = some n := h
      rw [if_pos b] at h2
      cases h2
      exact ⟨e2, b⟩
    · have h2 : (if m.natAbs ≤ 1000000000 then some m else none) = some n := h
      rw [if_neg b] at h2
      cases h2
theorem entw_back {ws : List Str} {e : Ent} (h : entw ws = some e) : ws = wds e ∧ Val e := by
  match ws with
  | [] => cases h
  | [_] => unfold entw at h; simp at h
  | [_, _] => unfold entw at h; simp at h
  | _ :: _ :: _ :: _ :: _ => unfold entw at h; simp at h
  | [u, v, w] =>
    unfold entw at h
    have h2 : (match [rdw u, rdw v, rdw w] with | [some a, some b, some c] => if okE a b c = true then some (a, b, c) else none | _ => none) = some e := h
    cases e1 : rdw u with
    | none => rw [e1] at h2; cases h2
    | some a =>
      cases e2 : rdw v with
      | none => rw [e1, e2] at h2; cases h2
      | some b =>
        cases e3 : rdw w with
        | none => rw [e1, e2, e3] at h2; cases h2
        | some c =>
          rw [e1, e2, e3] at h2
          have h3 : (if okE a b c = true then some (a, b, c) else none) = some e := h2
          cases k : okE a b c with
          | false => rw [k] at h3; cases h3
          | true =>
            rw [k, if_pos rfl] at h3
            cases h3
            obtain ⟨x1, y1⟩ := rdw_back e1
            obtain ⟨x2, y2⟩ := rdw_back e2
            obtain ⟨x3, y3⟩ := rdw_back e3
            unfold okE at k
            simp only [Bool.not_eq_true', Bool.or_eq_false_iff, decide_eq_false_iff_not] at k
            refine ⟨by unfold wds; rw [x1, x2, x3], ⟨y1, y2, ?_, ?_, ?_⟩⟩
            · show a < b; omega
            · show 0 ≤ c; omega
            · show c ≤ 1000000; omega
theorem row_back {r : Str} {e : Ent} (h : entw (Txt.split r " ") = some e) : r = row e ∧ Val e := by
  obtain ⟨h1, h2⟩ := entw_back h
  refine ⟨?_, h2⟩
  unfold row
  rw [← h1, join_split blk (by decide +kernel)]
/-- the rows of a text, each with its entry -/
def rows (x : Str) : List Str := if x = "" then [] else Txt.split x "\n"
def ents (x : Str) : List (Option Ent) := (rows x).map fun r => entw (Txt.split r " ")
theorem ents_back {x : Str} {es : List Ent} (h : ents x = es.map some) : x = txt es ∧ ∀ e ∈ es, Val e := by
  have gen : ∀ (rs : List Str) (es : List Ent), (rs.map fun r => entw (Txt.split r " ")) = es.map some → rs = es.map row ∧ ∀ e ∈ es, Val e := by
    intro rs
    induction rs with
    | nil => intro es h; cases es with
      | nil => exact ⟨rfl, fun _ z => (List.not_mem_nil z).elim⟩
      | cons _ _ => cases h
    | cons r rs ih => intro es h; cases es with
      | nil => cases h
      | cons e es =>
        rw [List.map_cons, List.map_cons, List.cons.injEq] at h
        obtain ⟨a1, a2⟩ := row_back h.1
        obtain ⟨b1, b2⟩ := ih es h.2
        refine ⟨by rw [List.map_cons, ← a1, ← b1], fun x hx => ?_⟩
        rcases List.mem_cons.mp hx with z | z
        · rw [z]; exact a2
        · exact b2 x z
  obtain ⟨h1, h2⟩ := gen _ _ h
  refine ⟨?_, h2⟩
  unfold rows at h1
  by_cases c : x = ""
  · rw [if_pos c] at h1
    have : es = [] := List.map_eq_nil_iff.mp h1.symm
    rw [this, c, txt_nil]
  · rw [if_neg c] at h1
    unfold txt
    rw [← h1, join_split nlk (by decide +kernel)]
end NY

/-! a def of a class whose first statement is super().__init__(a text): an own exception's __init__ -/
namespace XS
open PySem PySem.Spec PyProof.Rows L2 NdefX
structure FunS (K : PySem.W.Frag) (P : Program) (x qual : Str) (st : Stmt) (C : Addr) (f : Addr) (fd : FuncData) : Prop where
  ex : ∃ (oc : Value) (od : Option Addr) (dV kV doc pm : Value) (an : Option Addr) (cda : Addr) (ct : Value) (osl : Array (Option Value)) (cc : Addr) (cl : Value) (cld : Option Addr) (csl : Array (Option Value)) (ccl : Value) (cdd : Option Addr) (vs : Array Value) (ccs : Array (Option Value)) (file : Str) (tf : Tok),
    fd = PySem.W.fnX x qual (defArgs st) (defBody st) (defScope st) [("__class__", cc)] dV kV doc pm an (.ref cda) ct ∧ K.lookup f = some ⟨oc, od, .func fd, osl⟩ ∧ PySem.W.codeIn K (.ref cda) qual = true ∧
    K.lookup cc = some ⟨cl, cld, .cell (some (.ref C)), csl⟩ ∧ K.lookup cda = some ⟨ccl, cdd, .fields vs, ccs⟩ ∧ vs[2]? = some (.str file tf) ∧ ((P.main.file : Str) == file) = true
/-- what the module says of super -/
structure SupK (K : PySem.W.Frag) (P : Program) (mg : Str → Option Value) : Prop where
  top : (P.main.scope.names.lookup ("super" : Str)).isSome = false
  no : mg "super" = none
  any : PySem.W.nsIn K cStatics "thirdparty.any" = some none
/-- the class over ValueError -/
structure SupC (K : PySem.W.Frag) (C : Addr) : Prop where
  oex : OexC K C
  mro : PySem.W.mroIn K C (.ref C) = some true
  sup : PySem.W.ks_superIn K C C "__init__" = some (some (.builtin "ValueError.__init__"))
  sub : PySem.W.subIn K (.ref C) (.type "ValueError") = some true
theorem FnInit_len {p : Str} : ∀ vs : List V, (∃ a v, vs = [V.ref a, v]) → vs.length = (["self", p] : List Str).length := fun vs h => by
  obtain ⟨a, v, rfl⟩ := h
  rfl
section
variable {X : Cx} {pins : List (Addr × Obj)} {σ : L2.St} {H : Hp} {s : Shared} {a C u : Addr}
/-- the bound ValueError.__init__ called: nothing of it is told -/
theorem call_mw {us : List Value} {Q : Value → Shared → Prop} (T : OexC X.K C) (I : Inv X pins σ H s) (e : H a = some (exo a C none)) (hu : s.heap.get? u = some (PySem.W.kxs_mw "ValueError.__init__" a)) (hl : us.length ≤ sizeLine) (h : ∀ s', Inv X pins σ H s' → Q .none s') {A : Around} {E : Value → Shared → Prop} :
    wpAny (model X.prog X.w) A (call (.ref u) us) Q E s := by
  obtain ⟨nm, q, N, bs, bm, sn, sub, ab, col, dd, k0, k1, k2, k3, k5, hC, hbm⟩ := T.cls
  obtain ⟨t1, ho⟩ := exo_at I.hok e
  have hCs := I.kIn _ _ hC
  obtain ⟨hp, g, d, t, os⟩ := s
  refine wpAny_call (codeAny_of_tree ?_)
  show wpAny _ A.in1 (callAny (.ref u) ⟨us, []⟩) _ _ _
  simp only [callAny]
  refine wpAny_bind (wpAny_load hu ?_)
  simp only [PySem.W.kxs_mw, show (Value.type "method-wrapper" == Value.type "method" || Value.type "method-wrapper" == Value.type "builtin_function_or_method" || Value.type "method-wrapper" == Value.type "method-wrapper") = true by decide, if_true]
  refine PySem.W.KFB.if_so (by decide) ?_
  show wpAny _ _ (checkBoundCall "ValueError.__init__" ⟨.ref a :: us, []⟩ >>= fun _ => again (.builtin "ValueError.__init__" ⟨.ref a :: us, []⟩)) _ _ _
  have FB := PySem.F.excBase_ValueError
  refine wpAny_bind (PySem.W.check_bound_init FB.toExcCallFacts hCs ho rfl ?_)
  refine wpAny_pure ⟨plainId_quiet FB.init.plain _, codeAny_builtin FB.initEntry ?_⟩
  rw [Around.under_plainId FB.init.plain _]
  refine PySem.W.exc_init_tree (cls := .ref C) (t0 := t1) (dv := none) (c2 := .none) (c3 := .none) (b4 := .bool false) ho hl fun h' k hx ht => ?_
  have J := I.write (t' := t) (x := a) (e := a) (o := exo a C none) (by rw [e]; exact True.intro) (.inl rfl) k ⟨_, hx⟩ (exo_ok hx)
  have eu : upd H a (exo a C none) = H := by
    funext b
    by_cases hb : b = a
    · rw [hb, upd_same, e]
    · rw [upd_ne hb]
  rw [eu] at J
  exact h _ J
end
theorem lookup_one {k y : Str} {c d : Addr} (e : List.lookup y [(k, c)] = some d) : y = k ∧ d = c := by
  rw [List.lookup_cons] at e
  split at e
  · rename_i h
    exact ⟨by simpa using h, (Option.some.inj e).symm⟩
  · cases e
section
variable {CX : CXT} {P : Program} {w : World} {K : PySem.W.Frag} {mg : Str → Option Value} {base : Heap} {N ps : List Str} {k : Nat} {sp : Sp} {x qual a0 : Str} {st : Stmt} {C f : Addr} {fd : FuncData} {p0 p1 p2 p3 p4 p5 : Pos} {z : Str} {j : Nat} {rest : List Stmt} {pl : Env → Sem Bool}
theorem fn_sup (F : FunS K P x qual st C f fd) (SK : SupK K P mg) (SC : SupC K C)
    (hb : defBody st = .Expr (.Call (.Attribute (.Call (.Name "super" p0) [] [] p1) "__init__" p2) [.Constant (.str z) j p5] [] p3) p4 :: rest)
    (S : NScope N ps ["__class__"] (defScope st)) (hsu : (defScope st).names.lookup ("super" : Str) = some .globalImplicit) (har : ((defArgs st).posonlyargs ++ (defArgs st).args).head?.map (·.arg) = some a0) (hps : ps[0]? = some a0) (hN : N[0]? = some a0) (hda : (a0 == ("__debug__" : Str)) = false)
    (hc : ∀ env, eval (.Call (.Attribute (.Call (.Name "super" p0) [] [] p1) "__init__" p2) [.Constant (.str z) j p5] [] p3) env = (do
      let ov ← attributeBase (.Call (.Name "super" p0) [] [] p1) "__init__" env (eval (.Call (.Name "super" p0) [] [] p1) env)
      standAt p2.atName
      let (f, first) ← holding [ov] (getMethod ov "__init__" (pl env))
      callWith p3 f first (backTo p3 (starEach [.Constant (.str z) j p5] env)) []))
    (len : ∀ vs H Q E, sp vs H Q E → vs.length = ps.length)
    (hbody : ∀ (F : NF) (A : Around) (outer : List Env) (s : Shared) (H : Hp) (vs : List V) (Q : VK) (E : XK), F.scope = defScope st → Room k (A.deeper (envF F f s.heap.objs.size)) → sp vs H Q E →
      ∃ a, vs[0]? = some (.ref a) ∧ H a = some (exo a C none) ∧ ∃ t, PSs (ncx CX P w K mg base N F f A outer s H E) rest t ∧ t { nx := fun _ H' => Q .non H', rt := Q } (startF N vs [none]) H) :
    FnOk P w K mg base CX (k + 1) f fd ps sp := by
  obtain ⟨oc, od, dV, kV, doc, pm, an, cda, ct, osl, cc, cl, cld, csl, ccl, cdd, cvs, ccs, file, tf, rfl, lk, hcd, lcc, lcd, hv2, hfile⟩ := F.ex
  obtain ⟨NFF, hNF⟩ : ∃ NFF : NF, NFF = ⟨x, qual, defArgs st, defBody st, defScope st, [("__class__", cc)], cda⟩ := ⟨_, rfl⟩
  refine ⟨len, fun A outer s H args us vs Q E hr e0 hbd r hsp => ?_⟩
  have hl := len _ _ _ _ hsp
  have KX : K.In s.heap := e0.mod.kin.keeps fun b o e => (e0.bs b o e).1
  have lim : s.heap.NoLimit := e0.mod.nolimit.keeps fun b o e => (e0.bs b o e).1
  have CA : CellsAt NFF.cl ["__class__"] [none] s.heap H := by
    subst hNF
    refine ⟨rfl, fun y c e => ?_, fun y1 y2 c e1 e2 => ?_, fun i y e => ?_⟩
    · obtain ⟨_, rfl⟩ := lookup_one e
      exact ⟨(e0.bs _ _ (e0.mod.kin _ _ lcc)).2, _, ⟨_, KX _ _ lcc, rfl⟩⟩
    · rw [(lookup_one e1).1, (lookup_one e2).1]
    · match i, e with
      | 0, e =>
        cases e
        exact ⟨cc, by simp, fun v e => by cases e⟩
  refine codeAny_call_function hr.depth (KX _ _ lk) rfl S.co S.gen rfl (PySem.W.codeRec_of KX hcd) (hbd _ _ _ _ ?_)
  refine wpAny_newFunctionEnv S.nocell (fun ⟨n, _⟩ hy => S.par n (List.of_mem_zip hy).1) (fun h₁ hns hsb => ⟨lim.fresh _ hsb, ?_⟩) S.kind
  have kp : ∀ b o, s.heap.get? b = some o → h₁.get? b = some o := fun b o e => hsb.extBut b o (Nat.ne_of_lt (Heap.lt_size e)) (Heap.get?_push_of_some _ e)
  obtain ⟨a, hv0, ea, t, ht, hq⟩ := hbody NFF A outer s H vs Q E (by rw [hNF]) (hr.deeper _) hsp
  have I : Inv (ncx CX P w K mg base N NFF f A outer s H E) [] (startF N vs [none]) H { s with heap := h₁, toks := s.toks + (ps.zip us).length } := inv_startN (by rw [hNF]; exact S) hr.hd e0 hl r CA hns kp
  show codeAny _ _ (.func (defBody st) (PySem.W.envX qual (defScope st) s.heap.objs.size f (.ref cda) [("__class__", cc)])) _ _
  refine ks_codeAny_funcAt ?_
  have eqA : A.deeper (PySem.W.envX qual (defScope st) s.heap.objs.size f (.ref cda) [("__class__", cc)]) = (ncx CX P w K mg base N NFF f A outer s H E).A := by rw [hNF]; rfl
  have eqE : PySem.W.envX qual (defScope st) s.heap.objs.size f (.ref cda) [("__class__", cc)] = (ncx CX P w K mg base N NFF f A outer s H E).env := by rw [hNF]; rfl
  rw [hb]
  have hi : interactive (PySem.W.envX qual (defScope st) s.heap.objs.size f (.ref cda) [("__class__", cc)]) = false := by simp [interactive, S.kind]
  refine ks_wpAt_execs_cons (ks_wpAt_Expr_any (ks_wpAt_MethodCall ?_ (hc _)) hi rfl)
  have kO : (PySem.W.envX qual (defScope st) s.heap.objs.size f (.ref cda) [("__class__", cc)]).scope.kind = .function := S.kind
  have IK := I.kIn
  have hcl : (defScope st).names.lookup ("__class__" : Str) = some .free := S.frk _ List.mem_cons_self
  obtain ⟨ar, har1, har2⟩ : ∃ ar : Arg, ((defArgs st).posonlyargs ++ (defArgs st).args).head? = some ar ∧ ar.arg = a0 := by
    cases h : ((defArgs st).posonlyargs ++ (defArgs st).args).head? with
    | none => rw [h] at har; cases har
    | some ar => rw [h] at har; exact ⟨ar, rfl, Option.some.inj har⟩
  refine ks_wpAt_super_base (env := PySem.W.envX qual (defScope st) s.heap.objs.size f (.ref cda) [("__class__", cc)]) hsu hcl (by decide) rfl (IK _ _ lk) rfl har1 rfl (IK _ _ lcd) rfl hv2 hfile SK.top ?_
  obtain ⟨mb, hmb1, hmb2⟩ := I.mod.blt
  refine PySem.W.ks_loadName_global kO hsu (Calls.loadGlobal_builtin (env := PySem.W.envX qual (defScope st) s.heap.objs.size f (.ref cda) [("__class__", cc)]) (I.mod.glob.keeps I.bk) SK.no (hmb1.keeps I.bk) ((hmb2 "super" (by decide)).trans (show bootBuiltins "super" = some (.type "super") by decide +kernel)) ⟨rfl, ?_⟩)
  refine wpAny_loadName_free kO hcl (show List.lookup ("__class__" : Str) [(("__class__" : Str), cc)] = some cc by simp) ⟨_, IK _ _ lcc, rfl⟩ ?_
  obtain ⟨m, hns2, hl2⟩ := I.loc
  have hpm : a0 ∈ ps := List.mem_of_getElem? hps
  have hs0 : (startF N vs [none])[0]? = some (some (.ref a)) := by
    unfold startF
    have : 0 < vs.length := (List.getElem?_eq_some_iff.mp hv0).1
    rw [List.getElem?_append_left (by rw [List.length_map]; exact this), List.getElem?_map, hv0]
    rfl
  obtain ⟨u0, ru0, lk0⟩ := hl2 0 a0 (.ref a) hN hs0 (.inl (by rw [hNF]; exact S.par a0 hpm))
  have ru0 : u0 = Value.ref a := ru0
  subst ru0
  have kl : (PySem.W.envX qual (defScope st) s.heap.objs.size f (.ref cda) [("__class__", cc)]).kindOf a0 = some .local := S.par a0 hpm
  have hm0 : m a0 = some (.ref a) := by
    rcases lk0 with ⟨_, h⟩ | ⟨h, _⟩
    · exact h
    · rw [← eqE, kl] at h
      rcases h with h | h <;> cases h
  rw [har2]
  refine wpAny_loadName_local kO kl (by rw [hNF] at hns2; exact hns2) hm0 ?_
  obtain ⟨nm, q, NN, bs, bm, sn, sub, ab, col, dd, k0, k1, k2, k3, k5, hC, hbm⟩ := SC.oex.cls
  have hCl : PySem.W.clsIn K C = some { name := nm, bases := bs, mro := .ref C :: bm, ns := NN, qualname := q, hasDict := true, slotNames := sn, subclasses := sub, abstract := ab, collection := col, hasDel := false } := by unfold PySem.W.clsIn; rw [hC] <;> rfl
  obtain ⟨t1, ho⟩ := exo_at I.hok ea
  refine ks_wpAny_isType_cls (IK _ _ hC) rfl ⟨rfl, ?_⟩
  refine ks_wpAny_call_super (IK _ _ hC) rfl ho rfl (fun c z => nomatch z) (PySem.W.looks_mroIn IK SC.mro) (fun h2 e2 k2 => ?_)
  have I2 := I.kept (t' := s.toks + (ps.zip us).length) k2
  have IK2 : K.In h2 := I2.kIn
  have IA : PySem.W.InstAt h2 a _ C none := ⟨k2 _ _ ho, rfl, rfl, trivial⟩
  have hm := SC.sup
  unfold PySem.W.ks_superIn at hm
  rw [hCl] at hm
  refine PySem.W.kxs_getMethod PySem.W.kxs_ValueError e2 (PySem.W.looks_opaque IK2 SK.any) (l₀ := .ref C :: bm) (fun A Q E s k q => wpAny_bind ((PySem.W.looks_clsIn IK2 hCl) A _ E s k (wpAny_pure q))) rfl IK2 hm (IA.type.andThen (PySem.W.looks_subIn IK2 SC.sub)) (PySem.W.ks_ne IK2 IA hCl) (by decide) ?_
  have I3 := ClX.pin_new (t' := s.toks + (ps.zip us).length + 1) (o := PySem.W.kxs_mw "ValueError.__init__" a) I2 (fun _ _ z => Heap.get?_push_of_some _ z) (Nat.le_refl _) (Heap.get?_push_size h2 rfl) (fun v z => nomatch z)
  subst hNF
  refine PySem.W.kxs_callWith (i := "ValueError.__init__") (x := a) rfl (PySem.Calls.evalArgs_plain ?_)
  refine thn ((pa_cons pe_str pa_nil : PA (ncx CX P w K mg base N ⟨x, qual, defArgs st, defBody st, defScope st, [("__class__", cc)], cda⟩ f A outer s H E) [.Constant (.str z) j p5] (tCons (tC (.str z)) tNil)).run p3 _ _ _ H (fun vs H' => H' = H ∧ vs.length ≤ 1) I3 ⟨rfl, Nat.le_refl _⟩) fun us2 s2 ⟨vs2, H2, I4, r4, eH, l4⟩ => ?_
  subst eH
  have hu := ClX.pin_at I4
  refine ⟨hu, ?_⟩
  refine call_mw SC.oex (ClX.unpin I4) ea hu (by show us2.length ≤ sizeLine; rw [← Paired.length r4, sizeLine_eq]; omega) fun s5 I5 => ?_
  refine wpAt_of_wpAny (wpAny_mono (ht.run [] _ _ H2 _ I5 hq) (fun fl s' hs => ?_) fun e s' hs => hs)
  have fin : ∀ {σ' : L2.St} {H' : Hp} {v : V} {u : Value}, Inv (ncx CX P w K mg base N ⟨x, qual, defArgs st, defBody st, defScope st, [("__class__", cc)], cda⟩ f A outer s H2 E) [] σ' H' s' → L2.RelV v u → Q v H' → CE outer P w H2 s Q u s' :=
    fun {σ' H' v u} J rv q => ⟨v, H', J.os, J.bare, J.base, J.hok, rv, q⟩
  cases fl with
  | ret u =>
    obtain ⟨v, σ', H', J, rv, q⟩ := hs
    exact fin J rv q
  | next =>
    obtain ⟨σ', H', J, q⟩ := hs
    exact fin (v := V.non) (u := Value.none) J rfl q
  | brk =>
    obtain ⟨_, _, _, q⟩ := hs
    exact False.elim q
  | cont =>
    obtain ⟨_, _, _, q⟩ := hs
    exact False.elim q
end
end XS

/-! an own error's __init__: super().__init__(a text), then self.f = p -/
namespace XS
open PySem PySem.Spec PyProof.Rows L2 NdefX
/-- what it leaves: the error's dict has the field -/
def spInit (C : Addr) (f : Str) : Sp := fun vs H Q _ => ∃ (a : Addr) (v : V), vs = [.ref a, v] ∧ H a = some (exo a C none) ∧ ∀ dx, H dx = none → dx ≠ a → Q .non (upd (upd H dx (exd dx [(f, v)])) a (exo a C (some dx)))
theorem spInit_len {C : Addr} {f p : Str} : ∀ vs H Q E, spInit C f vs H Q E → vs.length = (["self", p] : List Str).length := fun vs H Q E h => by
  obtain ⟨a, v, rfl, _⟩ := h
  rfl
section
variable {CX : CXT} {P : Program} {w : World} {K : PySem.W.Frag} {mg : Str → Option Value} {base : Heap} {k : Nat} {x qual p fld : Str} {st : Stmt} {C f : Addr} {fd : FuncData} {p0 p1 p2 p3 p4 p5 q1 q2 q3 q4 : Pos} {z : Str} {j : Nat} {pl : Env → Sem Bool}
theorem fn_init (F : FunS K P x qual st C f fd) (SK : SupK K P mg) (SC : SupC K C)
    (hb : defBody st = .Expr (.Call (.Attribute (.Call (.Name "super" p0) [] [] p1) "__init__" p2) [.Constant (.str z) j p5] [] p3) p4 :: [.Assign [.Attribute (.Name "self" q1) fld q2] (.Name p q3) q4])
    (S : NScope ["self", p, "__class__"] ["self", p] ["__class__"] (defScope st)) (hsu : (defScope st).names.lookup ("super" : Str) = some .globalImplicit) (har : ((defArgs st).posonlyargs ++ (defArgs st).args).head?.map (·.arg) = some "self")
    (hdp : (p == ("__debug__" : Str)) = false) (hcp : (p == ("__classdict__" : Str)) = false)
    (hls : (defScope st).names.lookup ("self" : Str) = some .local) (hlp : (defScope st).names.lookup p = some .local)
    (hno : PySem.W.findIn K (.ref C) fld = some none)
    (hc : ∀ env, eval (.Call (.Attribute (.Call (.Name "super" p0) [] [] p1) "__init__" p2) [.Constant (.str z) j p5] [] p3) env = (do
      let ov ← attributeBase (.Call (.Name "super" p0) [] [] p1) "__init__" env (eval (.Call (.Name "super" p0) [] [] p1) env)
      standAt p2.atName
      let (f, first) ← holding [ov] (getMethod ov "__init__" (pl env))
      callWith p3 f first (backTo p3 (starEach [.Constant (.str z) j p5] env)) []))
    (hsw : ∀ env, swapsWith (.Name p q3) (some (.Attribute (.Name "self" q1) fld q2)) q4.line env = pure false) :
    FnOk P w K mg base CX (k + 1) f fd ["self", p] (spInit C fld) := by
  refine fn_sup (sp := spInit C fld) F SK SC hb S hsu har rfl rfl (by decide) hc spInit_len fun NFF A outer s H vs Q E hF hr h => ?_
  obtain ⟨a, v, rfl, ea, hq⟩ := h
  refine ⟨a, rfl, ea, _, pss_one (ps_ost (pe_var (i := 0) (x := "self") rfl (.inl ?_) (by decide) (by decide)) (pe_var (i := 1) (x := p) rfl (.inl ?_) hdp hcp) (hsw _)), ?_⟩
  · show NFF.scope.names.lookup ("self" : Str) = some .local
    rw [hF]; exact hls
  · show NFF.scope.names.lookup p = some .local
    rw [hF]; exact hlp
  · exact ⟨v, rfl, .ref a, rfl, a, C, rfl, SC.oex, hno, .inl ⟨ea, fun dx n ne => hq dx n ne⟩⟩
end
end XS

/-! a caught error that is kept behind its suite: caught = error; its fields; isinstance of it -/
namespace PySem.W
open PySem PySem.Spec PySem.Calls PyProof.Rows
section
variable {prog : Program} {w : World} {A : Around} {E : Value → Shared → Prop} {s : Shared} {K : Frag} {x D : Addr} {ox : Obj} {od : Option Obj}
theorem xk_findObj {C : Addr} {name : Str} {a g : Value} (hc : (clsIn K C).isSome = true) (ha : findIn K (.ref C) name = some (some a)) (hg : specialIn K a "__get__" = some (some g)) (ht : takesIn K a = some true) : findObj K C od name = some (.bind g a) := by
  obtain ⟨cd, hc⟩ := Option.isSome_iff_exists.mp hc
  unfold findObj
  rw [hc, Option.bind_some, ha, Option.bind_some]
  simp [hg, ht]
theorem xk_class {Q : Option Value → Shared → Prop} (hga : findIn K (.ref D) "__getattribute__" = some (some (.builtin "BaseException.__getattribute__"))) (hgt : findIn K (.ref D) "__getattr__" = some none) (hsub : subIn K (.ref D) (.type "BaseException") = some true)
    (hdct : hasDictIn K D = true) (ha : findIn K (.ref D) "__class__" = some (some (.builtin "object.__class__")))
    (hn : specialIn K (.builtin "object.__class__") "__get__" = some (some (.builtin "getset_descriptor.__get__"))) (htk : takesIn K (.builtin "object.__class__") = some true) (hm : mroIn K D (.type "object") = some true)
    (X : K.In s.heap) (I : InstAt s.heap x ox D od) (h : Q (some (.ref D)) { s with toks := s.toks + 1 }) : wpAny (model prog w) A (getAttr? (.ref x) "__class__") Q E s := by
  have hf : findObj K D od "__class__" = some (.bind (.builtin "getset_descriptor.__get__") (.builtin "object.__class__")) := xk_findObj (by obtain ⟨cd, hc, _⟩ := any_some hdct; rw [hc]; rfl) ha hn htk
  obtain ⟨hp, g, d, t, os⟩ := s
  have L0 := I.type (M := model prog w)
  have L1 := looks_findIn (M := model prog w) X hga
  have L2 := looks_findIn (M := model prog w) X hgt
  have L3 := looks_find (M := model prog w) X I hf
  have sub : Looks (model prog w) hp (isInstance (.ref x) (.type "BaseException")) true := L0.andThen (looks_subIn X hsub)
  have hx0 : (false && onTheHeap (Value.builtin "BaseException.__getattribute__")) = false := rfl
  have hx2 : (Value.builtin "BaseException.__getattribute__" == Value.builtin "object.__getattribute__") = false := by decide +kernel
  have hx1 : (onTheHeap (Value.ref D) && Value.builtin "BaseException.__getattribute__" == Value.builtin "object.__getattribute__") = false := by rw [hx2]; rfl
  unfold getAttr? getAttrBy? getAttrBy
  refine wpAny_bind (wpAny_mkText (wpAny_bind (wpAny_attempt (wpAny_holding (wpAny_bind (L0.at (wpAny_bind (L1.at ?_))))))))
  show wpAny _ _ (if (onTheHeap (Value.ref D) && Value.builtin "BaseException.__getattribute__" == Value.builtin "object.__getattribute__") = true then _ else _) _ _ _
  rw [hx1, if_neg Bool.false_ne_true]
  unfold getAttrByItsOwn hookBefore
  refine wpAny_bind ?_
  rw [if_pos (show onTheHeap (Value.ref D) = true from rfl)]
  refine L2.at ?_
  refine wpAny_bind (wpAny_attempt (wpAny_holding ?_))
  unfold callGetattribute
  rw [hx0, if_neg Bool.false_ne_true]
  unfold boundAndCalled
  rw [PySem.F.excAttr_ValueError.ga.bind (.ref x)]
  refine wpAny_bind (wpAny_pure ?_)
  show wpAny _ _ (call (.builtin "BaseException.__getattribute__") [.ref x, .str "__class__" t]) _ _ _
  refine wpAny_call (codeAny_call_builtin PySem.F.excAttr_ValueError.ga.plain PySem.F.entry_bexc_ga ?_)
  refine @check_slot (model prog w) _ _ ⟨hp, g, d, t + 1, os⟩ "BaseException.__getattribute__" "BaseException" "__getattribute__" (.ref x) [.str "__class__" t] [] _ (by decide +kernel) (by decide +kernel) sub (PySem.F.args_bexc_ga (.ref x) (.str "__class__" t)) ?_
  unfold Builtin.«object.__getattribute__»
  refine wpAny_bind (wpAny_of_eq (a := ((Value.ref x : Value), [Value.str "__class__" t])) (by first | rfl | (simp only [slotArgs]; rfl)) ?_)
  refine wpAny_bind (wpAny_pure (wpAny_bind (L0.at (wpAny_bind (L3.at ?_)))))
  show wpAny _ _ (holding [Value.builtin "object.__class__"] (call (.builtin "getset_descriptor.__get__") [.builtin "object.__class__", .ref x, .ref D]) >>= ret) _ _ _
  refine wpAny_bind (wpAny_holding (wpAny_call (class_get (s := ⟨hp, g, d, t + 1, os⟩) (ox := ox) (od := od) X I hm ?_)))
  refine wpAny_pure ?_
  show wpAny _ _ (handedOut (.ref D)) _ _ _
  rw [handedOut_of (v := .ref D) rfl]
  first
    | exact wpAny_pure (wpAny_pure h)
    | exact wpAny_pure h
    | exact wpAny_pure (wpAny_bind (wpAny_pure (wpAny_pure h)))
theorem xk_kitx (hga : findIn K (.ref D) "__getattribute__" = some (some (.builtin "BaseException.__getattribute__"))) (hgt : findIn K (.ref D) "__getattr__" = some none) (hsub : subIn K (.ref D) (.type "BaseException") = some true) (hdct : hasDictIn K D = true) (ha : findIn K (.ref D) "__class__" = some (some (.builtin "object.__class__")))
    (hn : specialIn K (.builtin "object.__class__") "__get__" = some (some (.builtin "getset_descriptor.__get__"))) (htk : takesIn K (.builtin "object.__class__") = some true) (hm : mroIn K D (.type "object") = some true) :
    KitX K (.ref x) (.ref D) (fun h => InstAt h x ox D od) where
  ty := fun _ _ _ I => I.type
  it := fun _ _ X _ => by
    obtain ⟨cdD, hcD, _⟩ := any_some hdct
    unfold clsIn at hcD
    split at hcD
    · rename_i c' d' cd' sl' ho
      intro A' Q' E' s' k q
      unfold isType loadHead
      exact wpAny_bind (wpAny_loadPart (k _ _ (X _ _ ho)) (wpAny_pure q))
    · cases hcD
  ne := fun h tp dd its n sl X htp => by
    obtain ⟨cdD, hcD, _⟩ := any_some hdct
    refine Bool.eq_false_iff.mpr fun q => ?_
    have e : D = tp := Value.ref.inj (beq_iff_eq.mp q)
    subst e
    unfold clsIn at hcD
    split at hcD
    · rename_i c' d' cd' sl' ho
      have z := (X _ _ ho).symm.trans htp
      cases z
    · cases hcD
  ca := fun X I k => xk_class hga hgt hsub hdct ha hn htk hm X I k
end
end PySem.W
namespace XS
open PySem PySem.Spec PyProof.Rows L2
/-- at a: an error of the class cls, with the dict d, that is kept -/
def exk (a : Addr) (cls : Value) (d : Option Addr) : HO := .ext fun h => ∃ oe vs, h.get? a = some oe ∧ Zc cls d oe ∧ oe.data = .fields vs
theorem exk_own {e x : Addr} {c : Value} {d : Option Addr} : exk e c d ≠ .own x := fun z => by
  have z' : HO.ext _ = HO.own x := z
  cases z'
theorem exk_tup {e : Addr} {c : Value} {d : Option Addr} {xs : List V} : exk e c d ≠ .tup xs := fun z => by
  have z' : HO.ext _ = HO.tup xs := z
  cases z'
theorem exk_lst {e : Addr} {c : Value} {d : Option Addr} {xs : List V} : exk e c d ≠ .lst xs := fun z => by
  have z' : HO.ext _ = HO.lst xs := z
  cases z'
theorem exk_ok {P : Program} {w : World} {H : Hp} {h : Heap} {e : Addr} {cls : Value} {d : Option Addr} {oe : Obj} {vs : Array Value} (he : h.get? e = some oe) (hz : Zc cls d oe) (hd : oe.data = .fields vs) : ObjOk P w H h e (exk e cls d) :=
  ⟨⟨oe, vs, he, hz, hd⟩, ⟨_, he⟩, fun h1 h2 z k => by
    obtain ⟨o, v, q, r⟩ := z
    exact ⟨o, v, k _ q, r⟩⟩
theorem exk_at {P : Program} {w : World} {H : Hp} {h : Heap} {e : Addr} {cls : Value} {d : Option Addr} (hok : HOk P w H h) (he : H e = some (exk e cls d)) : ∃ oe vs, h.get? e = some oe ∧ Zc cls d oe ∧ oe.data = .fields vs := by
  have x : ObjOk P w H h e (.ext fun h => ∃ oe vs, h.get? e = some oe ∧ Zc cls d oe ∧ oe.data = .fields vs) := hok e _ he
  exact x.1
section
variable {X : Cx} {pins : List (Addr × Obj)} {σ : L2.St} {H : Hp} {s : Shared} {a : Addr} {cls : Value} {d : Option Addr} {oe : Obj} {vs : Array Value}
theorem keep_ok (I : Inv X pins σ H s) (h : s.heap.get? a = some oe) (hz : Zc cls d oe) (hd : oe.data = .fields vs) (na : H a = none) (new : X.s_0.heap.get? a = none) (nL : a ≠ X.env.locals) (hp : ∀ p ∈ X.pn ++ pins, p.1 ≠ a) : Inv X pins σ (upd H a (exk a cls d)) s := by
  have ne : ∀ {b : Addr} {o : HO}, H b = some o → b ≠ a := fun {b o} z => ne_of_none z na
  refine ⟨I.ok, I.os, I.bare, ⟨I.base.keep, I.base.slot, fun b o e n hx => ?_, I.base.there, fun b xs z => ?_, fun b o v z => ?_, fun b ps z => ?_⟩, I.loc, I.cell, ?_, fun x c e => ?_, fun p hpm => ?_, fun b o e => ?_, I.len⟩
  · rw [upd_ne (by rintro rfl; rw [new] at e; cases e)]
    exact I.base.free b o e n hx
  · have z' := I.base.tups b xs z
    rw [upd_ne (ne z')]; exact z'
  · have z' := I.base.frzs b o v z
    rw [upd_ne (ne z')]; exact z'
  · obtain ⟨qs, z'⟩ := I.base.tbls b ps z
    exact ⟨qs, by rw [upd_ne (ne z')]; exact z'⟩
  · rw [upd_ne (Ne.symm nL)]; exact I.free
  · have : c ≠ a := by
      rintro rfl
      obtain ⟨v, o, ho, hdd⟩ := I.cell x c e
      rw [h] at ho; cases ho
      rw [hd] at hdd; cases hdd
    rw [upd_ne this]; exact I.freeC x c e
  · obtain ⟨p1, p2, p3, p4, p5⟩ := I.pin p hpm
    exact ⟨p1, by rw [upd_ne (hp p hpm)]; exact p2, p3, p4, p5⟩
  · by_cases hb : b = a
    · subst hb
      rw [upd_same] at e
      cases e
      exact exk_ok h hz hd
    · rw [upd_ne hb] at e
      exact (I.hok b o e).stay (fun c v hc z => z) (fun c hc => by rw [upd_ne (ne hc)]; exact hc) (fun c xs hc => by rw [upd_ne (ne hc)]; exact hc)
end
/-- what the clause 'except x as n' wishes, where the error may be kept behind it -/
def wAsK (K : PySem.W.Frag) (c : Value) (i : Nat) (ts : Addr → Value → Option Addr → TS) (Wout : WX) (D : Ends) : WX := fun cls d σ H =>
  ∃ b, PySem.W.exmOne K cls c = some b ∧ (b = true → ∀ a, H a = none → ts a cls d { nx := fun σ' H' => D.nx (σ'.set i none) (upd H' a (exk a cls d)), rt := D.rt, bk := fun σ' H' => D.bk (σ'.set i none) H', ct := fun σ' H' => D.ct (σ'.set i none) H' } (σ.set i (some (.ref a))) H) ∧
    (b = false → Wout cls d σ H)
section
variable {X : Cx} {x n : Str} {c : Value} {i : Nat} {body suite : List Stmt} {b₀ : Stmt} {np pos pos' : Pos} {tb : WX → TS} {ts : Addr → Value → Option Addr → TS} {Wout : WX}
theorem ps_try_keep (hs : X.stack = X.env :: X.outer) (hex : X.ex = []) (hf : X.env.frame = some X.env.locals) (hN : X.N.Nodup) (hi : X.N[i]? = some n) (hln : X.env.kindOf n = some .local) (hc : Names X x c) (tk : Takes X Wout)
    (hb : ∀ (W : WX) (pn : List (Addr × Obj)) (xe : Value → Shared → Prop), Takes (X.tr pn xe) W → PassesOwn (model X.prog X.w) X.A X.env xe → PSs (X.tr pn xe) body (tb W))
    (hsu : ∀ (a : Addr) (oe : Obj) (cls : Value) (d : Option Addr) (pn : List (Addr × Obj)), Zc cls d oe → (∃ vs, oe.data = .fields vs) → PSs (X.suite a ((a, oe) :: pn)) (b₀ :: suite) (ts a cls d)) :
    PS X (.Try body [.ExceptHandler (some (.Name x np)) (some n) (b₀ :: suite) pos'] [] [] pos) (fun D σ H => tb (wAsK X.K c i ts Wout D) D σ H) := by
  refine ⟨fun pins s σ H D I h => ?_⟩
  have ok := I.ok
  have hfr : X.A.frames = some (X.env :: X.outer) := by rw [ok.frames, hs]
  have hloc : Loc X.env.scope n := .inl hln
  refine wpAny_Try_except ?_
  refine wpAny_mono ((hb (wAsK X.K c i ts Wout D) (X.pn ++ pins) (fun e s₁ => wpAny (model X.prog X.w) X.A (noteFrame e X.env) (fun _ s₂ => wpAny (model X.prog X.w) X.A (setFlight e none) (fun _ s₃ =>
    wpAny (model X.prog X.w) X.A (handleBy e X.env [.ExceptHandler (some (.Name x np)) (some n) (b₀ :: suite) pos']) (SP X pins D) X.xe s₃) X.xe s₂) X.xe s₁) (fun u s' xx => ?_) PassesOwn.looking).run [] s σ H D (I.toTry _) h) (fun f s1 hsp => ?_) (fun e s1 he => he)
  · -- the catch
    obtain ⟨a, B, sI, pins', σ', H', cls, d, rfl, J', nb, up, sky, na, os, ag, b, hb1, hyes, hno⟩ := xx
    have J : Inv X pins σ' H' sI := J'.ofTry ok
    have sky' : Sky B (X.env :: X.outer) a (Zc cls d) X.env.locals s'.heap := by rw [← hs]; exact sky
    show wpAny (model X.prog X.w) X.A (noteFrame (.ref a) X.env) _ _ _
    refine Sky.land Zc.steady hfr hf sky' fun h3 fl3 up3 => ?_
    have J3 : Inv X pins σ' H' { s' with heap := h3 } := J.landed nb fl3.1 (up.trans up3) os ag
    obtain ⟨oe3, vs3, he3, hz3, hd3⟩ := fl3.there
    have notFr : ∀ {h : Heap} {o : Obj} {vs : Array Value}, h.FunFrames B (X.env :: X.outer) → h.get? a = some o → o.data = .fields vs → a ∉ frs (X.env :: X.outer) := fun {h o vs} ff e dd hm => by
      obtain ⟨_, o', e', hnf⟩ := ff.mem hm
      rw [e] at e'; cases e'
      exact hnf _ dd
    have nfr := notFr fl3.2.2.1 he3 hd3
    have nL : a ≠ X.env.locals := fun z => nfr (List.mem_filterMap.mpr ⟨X.env, List.mem_cons_self, by rw [hf, z]⟩)
    have nF : a ∉ X.fs := fun hm => by
      obtain ⟨e, he, q⟩ := List.mem_filterMap.mp hm
      exact nfr (List.mem_filterMap.mpr ⟨e, List.mem_cons_of_mem _ he, q⟩)
    have nI : sI.heap.get? a = none := by
      cases q : sI.heap.get? a with
      | none => rfl
      | some o =>
        have z := nb a o q (by rw [hs]; exact nfr)
        rw [fl3.2.1] at z; cases z
    have new : X.s_0.heap.get? a = none := by
      cases q : X.s_0.heap.get? a with
      | none => rfl
      | some o =>
        obtain ⟨o', z⟩ := J.base.there a o q (by rw [hex]; simp)
        rw [nI] at z; cases z
    have hpn : ∀ p ∈ X.pn ++ pins, p.1 ≠ a := fun p hp z => by
      have := (J.pin p hp).1
      rw [z, nI] at this; cases this
    have S3 := J3.suite he3 hd3 na nL nF
    refine wpAny_handleBy_cons (codeAny_handlers_test ?_) (by intro q; cases q)
    have LT : PySem.W.Looks (model X.prog X.w) h3 (typeOf (.ref a)) cls := fun A Q E s k q => wpAny_typeOf_ref (k _ _ he3) (by rw [hz3.1]; exact q)
    have LM := PySem.W.exm_one (M := model X.prog X.w) (J3.kIn) LT hb1
    have test : ∀ {Q : Value → Shared → Prop} {E : Value → Shared → Prop}, Q c { s' with heap := h3 } → wpAny (model X.prog X.w) (X.A.mark (some (.ref a))) (eval (.Name x np) X.env) Q E { s' with heap := h3 } := fun {Q E} q => by
      obtain ⟨hg, hdbg, hm | ⟨hm, hv, hnn⟩⟩ := hc
      · exact ld_glob (X := X.suite a ((a, oe3) :: (X.pn ++ pins))) S3 hg hm q hdbg
      · exact ld_blt (X := X.suite a ((a, oe3) :: (X.pn ++ pins))) S3 hg hm hv q hnn hdbg
    refine test (LM.here ?_)
    cases b with
    | true =>
      refine codeAny_handlers_suite_as ?_
      refine HandSPX.lands_againZ fl3 fun h4 fl4 up4 => ?_
      have J4 : Inv X pins σ' H' { s' with heap := h4 } := J.landed nb fl4.1 ((up.trans up3).trans up4) os ag
      obtain ⟨oe4, vs4, he4, hz4, hd4⟩ := fl4.there
      have S4 := J4.suite he4 hd4 na nL nF
      refine store_ok (X := X.suite a ((a, oe4) :: (X.pn ++ pins))) (v := .ref a) S4 hN hi hloc rfl (fun s5 S5 => ?_) (.inr hln)
      refine wpAny_mono ((hsu a oe4 cls d (X.pn ++ pins) hz4 ⟨_, hd4⟩).run [] s5 _ H' _ S5 (hyes rfl a na)) (fun f s6 hsp => ?_) (fun _ _ z => False.elim z)
      have end_ : ∀ {σ6 : L2.St} {H6 : Hp} {Q : Shared → Prop}, Inv (X.suite a ((a, oe4) :: (X.pn ++ pins))) [] σ6 H6 s6 → (∀ s7, Inv X pins (σ6.set i none) H6 s7 → Q s7) →
          wpAny (model X.prog X.w) X.A (do bindName X.env n .none; unbindBehindTheSuite X.env n pos') (fun _ s7 => Q s7) X.xe s6 := fun {σ6 H6 Q} S6 hq => gone_ok (S6.unsuite ok) hN hi hln hq
      cases f with
      | next =>
        obtain ⟨σ6, H6, S6, q6⟩ := hsp
        obtain ⟨p1, p2, p3, p4, p5⟩ := S6.pin (a, oe4) (List.mem_append_left _ List.mem_cons_self)
        exact gone_ok (keep_ok (S6.unsuite ok) p1 hz4 hd4 p2 new p3 hpn) hN hi hln fun s7 J7 => ⟨_, _, J7, q6⟩
      | brk =>
        obtain ⟨σ6, H6, S6, q6⟩ := hsp
        exact end_ S6 fun s7 J7 => ⟨_, _, J7, q6⟩
      | cont =>
        obtain ⟨σ6, H6, S6, q6⟩ := hsp
        exact end_ S6 fun s7 J7 => ⟨_, _, J7, q6⟩
      | ret u =>
        obtain ⟨v6, σ6, H6, S6, r6, q6⟩ := hsp
        exact end_ S6 fun s7 J7 => ⟨_, _, _, J7, r6, q6⟩
    | false =>
      show wpAny _ X.A (handleBy (.ref a) X.env []) _ _ _
      refine wpAny_handleBy_nil ?_
      obtain ⟨k1, k2, k3, oe, vs, T, oT, ts', he, hz, hd, h1, hr⟩ := id fl3
      unfold PySem.passOn
      refine wpAny_bind (wpAny_field he hd h1 ?_)
      rw [if_neg (show ¬ ((Value.ref T == Value.none) = true) from by simp)]
      have fin : wpAny (model X.prog X.w) X.A (setFlight (.ref a) X.env.frame) (fun _ s4 => wpAny (model X.prog X.w) X.A (throw (.ref a) : Sem Flow) (SP X pins D) X.xe s4) X.xe { s' with heap := h3 } := by
        rw [hf]
        refine HandSPX.setFlight_upZ fl3 fun h4 hh4 up4 => wpAny_throw (tk _ _ ?_)
        exact ⟨a, B, sI, pins, σ', H', cls, d, rfl, J, nb, (up.trans up3).trans up4, .inr (.inr (by rw [hs]; exact hh4)), na, os, ag, hno rfl⟩
      first
        | exact wpAny_bind (wpAny_pure (wpAny_bind fin))
        | exact wpAny_bind fin
  · cases f with
    | next =>
      obtain ⟨σ', H', J', q⟩ := hsp
      exact wpAny_execs_nil ⟨σ', H', J'.ofTry ok, q⟩
    | brk =>
      obtain ⟨σ', H', J', q⟩ := hsp
      exact ⟨σ', H', J'.ofTry ok, q⟩
    | cont =>
      obtain ⟨σ', H', J', q⟩ := hsp
      exact ⟨σ', H', J'.ofTry ok, q⟩
    | ret u =>
      obtain ⟨v, σ', H', J', r, q⟩ := hsp
      exact ⟨v, σ', H', J'.ofTry ok, r, q⟩
end
/-- what an own error class says, so that a kept error's field f is read -/
def XfA (K : PySem.W.Frag) (f : Str) (C : Addr) : Prop := XfC K C ∧ PySem.W.findIn K (.ref C) f = some none
/-- e.f, e an error that is kept -/
def tXk (K : PySem.W.Frag) (f : Str) (te : TE) : TE := fun σ H Q => te σ H fun x H1 => ∃ (a C dd : Addr) (fs : List (Str × V)) (v : V), x = .ref a ∧ XfA K f C ∧ H1 a = some (exk a (.ref C) (some dd)) ∧ H1 dd = some (.xd fs) ∧ fs.lookup f = some v ∧ Q v H1
theorem pe_xk {X : Cx} {e : Expr} {te : TE} {pos : Pos} {n : Str} (he : PE X e te) (hb : attributeBase e n X.env (eval e X.env) = eval e X.env := by rfl) :
    PE X (.Attribute e n pos) (tXk X.K n te) := by
  refine ⟨fun pins s σ H Q I h => ?_⟩
  refine attr_of hb (thn (he.run pins s σ H _ I h) fun u s1 hh => ?_)
  obtain ⟨x, H1, I1, rx, a, C, dd, fs, v, ex, ⟨T, hno⟩, ek, ea, l, q⟩ := hh
  subst ex
  obtain rfl : u = Value.ref a := rx
  obtain ⟨oe, vs, ha, hz, hd⟩ := exk_at I1.hok ek
  have hx : ObjOk X.prog X.w H1 s1.heap dd (.xd fs) := I1.hok dd _ ea
  obtain ⟨mA, hns, hr⟩ := hx
  obtain ⟨od, ho, hl⟩ := lookIn_ns hns
  obtain ⟨u, hu, ru⟩ := RelO.some_of (v := v) (o := mA n) (by rw [← l]; exact hr n)
  have J : PySem.W.InstAt s1.heap a oe C (some od) := ⟨ha, hz.1, by unfold PySem.W.notCls; rw [hd] <;> rfl, by rw [hz.2]; exact ho⟩
  exact HandSPX.exc_get I1.kIn J T.ga T.gg T.exC (PySem.W.findObj_own T.hdC hno rfl (by rw [hl, hu])) (handed_of ru) ⟨v, H1, I1.tok _, ru, q⟩
/-- isinstance(e, c), e an error that is kept -/
def rIsK (K : PySem.W.Frag) : List V → Hp → VK → Prop := fun xs H Q => ∃ (a D dd : Addr) (fs : List (Str × V)) (c : V) (cv : Value) (b : Bool), xs = [.ref a, c] ∧ ExcC K D ∧ H a = some (exk a (.ref D) (some dd)) ∧ H dd = some (.xd fs) ∧ (∀ u, RelV c u → u = cv) ∧ PySem.W.kitOne K (.ref D) cv = some b ∧ Q (.bl b) H
theorem call_isK {X : Cx} : CallR X (.builtin "isinstance") (rIsK X.K) := by
  intro pins s σ H xs us Q I r h
  obtain ⟨a, D, dd, fs, c, cv, b, rfl, C, ek, ea, hcv, e, q⟩ := h
  cases r with
  | cons rx rr =>
    cases rr with
    | cons rt rr =>
      cases rr
      cases rx
      have ec := hcv _ rt
      subst ec
      obtain ⟨oe, vs, hget, hz, hv⟩ := exk_at I.hok ek
      have hx : ObjOk X.prog X.w H s.heap dd (.xd fs) := I.hok dd _ ea
      obtain ⟨mA, hns, hr⟩ := hx
      obtain ⟨od, ho, hl⟩ := lookIn_ns hns
      have J : PySem.W.InstAt s.heap a oe D (some od) := ⟨hget, hz.1, by unfold PySem.W.notCls; rw [hv] <;> rfl, by rw [hz.2]; exact ho⟩
      exact PySem.W.kia_one (PySem.W.xk_kitx C.hg C.hk C.hs C.hd C.ha C.hn C.ht C.hm) I.kIn J e (fun z => nomatch z) fun tk => ⟨.bl b, H, I.kept (t' := tk) fun _ _ z => z, rfl, q⟩
end XS

/-! what raising an own error with one field asks -/
namespace XE
open PySem PySem.Spec PyProof.Rows L2
/-- the heap behind C(v): the error let go, its dict left -/
theorem mk_heap {H : Hp} {a d : Addr} {o1 o2 o3 o4 : HO} (na : H a = none) (nd : d ≠ a) : upd (del (upd (upd (upd H a o1) d o2) a o3) a) d o4 = upd H d o4 := by
  funext b
  by_cases hb : b = d
  · subst hb; rw [upd_same, upd_same]
  · rw [upd_ne hb, upd_ne hb]
    by_cases ha : b = a
    · subst ha; rw [del_same, na]
    · rw [del_ne ha, upd_ne ha, upd_ne hb, upd_ne ha]
/-- what C(v) asks, C with an own __init__ that stores its one argument -/
theorem init_ends {C : Addr} {f : Str} {v : V} {H1 : Hp} {Q : Value → Option Addr → Hp → Prop} (h : ∀ d, H1 d = none → Q (.ref C) (some d) (upd H1 d (.xd [(f, v)]))) :
    ([v] : List V).length ≤ 1000 ∧ ∀ a, H1 a = none → XS.spInit C f (.ref a :: ([v] ++ [])) (upd H1 a (exo a C none))
      (fun v H2 => v = .non ∧ ∃ (d : Addr) (fs : List (Str × V)), H2 a = some (exo a C (some d)) ∧ H2 d = some (exd d fs) ∧ H1 d = none ∧ Q (.ref C) (some d) (upd (del H2 a) d (.xd fs))) (fun _ _ _ => False) := by
  refine ⟨by simp, fun a na => ⟨a, v, rfl, upd_same, fun dx n ne => ⟨rfl, dx, [(f, v)], upd_same, by rw [upd_ne ne, upd_same], ?_, ?_⟩⟩⟩
  · rw [upd_ne ne] at n; exact n
  · rw [mk_heap na ne]
    rw [upd_ne ne] at n
    exact h dx n
/-- what the text says of the error: its class and its __init__ -/
structure ErrC (K : PySem.W.Frag) (C fI : Addr) (fld : Str) : Prop where
  oex : OexC K C
  iC : PySem.W.findIn K (.ref C) "__init__" = some (some (.ref fI))
  tI : PySem.W.typeIn K (.ref fI) = some (.type "function")
end XE

set_option pp.maxSteps 900
/-! Table.parse of any text, with its error -/
namespace X5P
open PySem PySem.Spec PyProof.Rows L2 KA KD PH PM RM K52b XU GML XE Z5K
open XT hiding pairs_get
open NX (Val entw)
open NY (ents rows)
/-- a list's items are entries or None -/
def EAt (H : Hp) : List V → List (Option Ent) → Prop
  | [], [] => True
  | x :: xs, o :: os => (match o with | none => x = .non | some e => ∃ p, x = .ref p ∧ H p = some (tri e)) ∧ EAt H xs os
  | _, _ => False
theorem EAt.mp {H H' : Hp} (k : ∀ p e, H p = some (tri e) → H' p = some (tri e)) : ∀ {xs : List V} {os : List (Option Ent)}, EAt H xs os → EAt H' xs os
  | [], [], _ => trivial
  | _ :: _, none :: _, ⟨h1, h⟩ => ⟨h1, h.mp k⟩
  | _ :: _, some _ :: _, ⟨⟨p, h1, h2⟩, h⟩ => ⟨⟨p, h1, k p _ h2⟩, h.mp k⟩
  | [], _ :: _, h => h.elim
  | _ :: _, [], h => h.elim
theorem EAt.same {H H' : Hp} {xs : List V} {os : List (Option Ent)} (h : EAt H xs os) (s : Same H H') : EAt H' xs os := h.mp fun p e q => s _ _ q
theorem EAt.app {H : Hp} : ∀ {xs ys : List V} {os ps : List (Option Ent)}, EAt H xs os → EAt H ys ps → EAt H (xs ++ ys) (os ++ ps)
  | [], _, [], _, _, g => g
  | _ :: _, _, _ :: _, _, ⟨h1, h⟩, g => ⟨h1, h.app g⟩
  | [], _, _ :: _, _, h, _ => h.elim
  | _ :: _, _, [], _, h, _ => h.elim
theorem EAt.len {H : Hp} : ∀ {xs : List V} {os : List (Option Ent)}, EAt H xs os → xs.length = os.length
  | [], [], _ => rfl
  | _ :: _, _ :: _, ⟨_, h⟩ => congrArg (· + 1) h.len
  | [], _ :: _, h => h.elim
  | _ :: _, [], h => h.elim
theorem EAt.trips {H : Hp} : ∀ {xs : List V} {es : List Ent}, EAt H xs (es.map some) → TripsAt H xs es
  | [], [], _ => trivial
  | _ :: _, _ :: _, ⟨h1, h⟩ => ⟨h1, h.trips⟩
  | [], _ :: _, h => h.elim
  | _ :: _, [], h => h.elim
def dO : Option Ent → PyData
  | none => .none
  | some e => .tuple [.int e.1, .int e.2.1, .int e.2.2]
def dEs (os : List (Option Ent)) : List PyData := os.map dO
theorem dp_es {K : PySem.W.Frag} {H : Hp} : ∀ {xs : List V} {os : List (Option Ent)}, EAt H xs os → DpAll K H xs (dEs os)
  | [], [], _ => .nil
  | x :: xs, none :: os, ⟨h1, h⟩ => by
    subst h1
    exact .cons .non (dp_es h)
  | x :: xs, some e :: os, ⟨⟨p, h1, h2⟩, h3⟩ => by
    subst h1
    exact .cons (.tup (SqT.of h2) (.cons (.int _) (.cons (.int _) (.cons (.int _) .nil)))) (dp_es h3)
  | [], _ :: _, h => h.elim
  | _ :: _, [], h => h.elim
theorem lay_es : ∀ os : List (Option Ent), PyData.canLayAll0 (dEs os) = true
  | [] => rfl
  | none :: os => by
    show (PyData.canLay0 .none && PyData.canLayAll0 (dEs os)) = true
    rw [lay_es os]
    simp only [PyData.canLay0, Bool.and_true]
  | some e :: os => by
    show (PyData.canLay0 (.tuple [.int e.1, .int e.2.1, .int e.2.2]) && PyData.canLayAll0 (dEs os)) = true
    rw [lay_es os]
    simp only [PyData.canLay0, PyData.canLayAll0, Bool.and_true]
theorem depth_es : ∀ os : List (Option Ent), PyData.depthAll (dEs os) ≤ 3
  | [] => Nat.zero_le _
  | none :: os => by
    have h := depth_es os
    show max (PyData.depth .none) (PyData.depthAll (dEs os)) ≤ 3
    simp only [PyData.depth]
    omega
  | some e :: os => by
    have h := depth_es os
    show max (PyData.depth (.tuple [.int e.1, .int e.2.1, .int e.2.2])) (PyData.depthAll (dEs os)) ≤ 3
    simp only [PyData.depth, PyData.depthAll]
    omega
theorem shaped_es (os : List (Option Ent)) : SeqAt.shaped (.list (dEs os)) = true :=
  shaped_of (by simp only [PyData.canLay0, lay_es]) (by have := depth_es os; simp only [PyData.depth]; omega)
theorem dO_none (o : Option Ent) : PyData.eqv (dO o) .none = o.isNone := by
  cases o <;> rfl
theorem any_es (os : List (Option Ent)) : ((dEs os).any fun z => PyData.eqv z .none) = os.any Option.isNone := by
  unfold dEs
  rw [List.any_map]
  congr 1
  funext o
  exact dO_none o
theorem first_none : ∀ {os : List (Option Ent)}, os.any Option.isNone = true → ∃ j : Nat, os[j]? = some none ∧ ∀ m, m < j → os[m]? ≠ some none
  | [], h => by cases h
  | none :: os, _ => ⟨0, rfl, fun m h => absurd h (Nat.not_lt_zero m)⟩
  | some e :: os, h => by
    obtain ⟨j, h1, h2⟩ := first_none (os := os) h
    refine ⟨j + 1, h1, fun m hm => ?_⟩
    cases m with
    | zero => intro z; cases Option.some.inj z
    | succ m => exact h2 m (by omega)
theorem all_some : ∀ {os : List (Option Ent)}, os.any Option.isNone = false → ∃ es : List Ent, os = es.map some
  | [], _ => ⟨[], rfl⟩
  | none :: os, h => by cases h
  | some e :: os, h => by
    obtain ⟨es, k⟩ := all_some (os := os) h
    exact ⟨e :: es, by rw [List.map_cons, ← k]⟩
section
variable {P : Program} {w : World} {K : PySem.W.Frag} {mg : Str → Option Value} {base : Heap}
def spPE (C CE : Addr) : Sp := fun vs H Q E => ∃ (x : Str), vs = [.ref C, .str x] ∧ x.length ≤ 20000 ∧
  (∀ es, ents x = es.map some → ∀ H' t, Same H H' → TabAt H' C t es → Q (.ref t) H') ∧
  (∀ j : Nat, (ents x)[j]? = some none → (∀ m, m < j → (ents x)[m]? ≠ some none) → ∀ H' dx, Same H H' → H' dx = none → E (.ref CE) (some dx) (upd H' dx (.xd [(("row" : Str), .int (j : Int))])))
theorem ok_PE {f : Addr} {fd : FuncData} {fEO : Addr} {dEO : FuncData} {fTI : Addr} {dTI : FuncData} {fIN : Addr} {dIN : FuncData} {C CE : Addr} {k : Nat} (F : Fun K "parse" "Table.parse" sPA f fd) (GEO : FnOk P w K mg base CX0 (k + 4) fEO dEO ["words"] spEO) (gEO : mg "entry_of" = some (.ref fEO)) (kEO : PySem.W.keepIn K (.ref fEO) = true) (bEO : Binds K dEO ["words"] []) (mk : Mk K C fTI) (GTI : FnOk P w K mg base CX0 (k + 1) fTI dTI ["self", "entries"] (spTI K C)) (bTI : Binds K dTI ["self", "entries"] []) (TC : ErrC K CE fIN "row") (gC : mg "InvalidText" = some (.ref CE)) (GIN : FnOk P w K mg base CX0 1 fIN dIN ["self", "row"] (XS.spInit CE "row")) (bIN : Binds K dIN ["self", "row"] []) : FnOk P w K mg base (CX P w) (k + 7) f fd ["cls", "text"] (spPE C CE) := by
  refine F.okX scPA (fun vs H Q E h => ?_) (fun cdv A outer s H vs Q E hr h => ?_)
  · obtain ⟨x, rfl, _⟩ := h
    rfl
  · obtain ⟨x, rfl, hl, hq, hE⟩ := h
    refine ⟨_, (pss_cons (ps_if (pt_cmpR op_eq (pv 1) pe_str (nomark _)) (pss_one (ps_ret (pe_makeL (i := 0) mk (GTI.mono (show k + 1 ≤ k + 5 by omega)) hr rfl (.inl rfl) bTI .nil pass0 (pa_cons (pe_lst pa_nil) pa_nil)))) pss_nil)
      (pss_cons (ps_setLc (i := 2) (own := [("row", 3)]) (g := gName 3) (tt := tYes)  rfl scPA.nd rfl rfl (sw_true rfl rfl rfl (by decide +kernel)) (pi_list (pe_split (pv 1) pe_str)) (blkOk_by (own := [("row", 3)]) (N := ["cls", "text", "entries", "row"]) (sc := defScope sPA) (by decide +kernel)) (fun _ _ _ _ _ => (pg_name (i := 3) scPA.nd rfl (Or.inl rfl) (Or.inr rfl))) (fun _ _ _ _ _ => pts_nil) (fun _ _ _ _ _ => (pe_call (GEO.mono (show k + 4 ≤ k + 6 by omega)) hr (by rfl) gEO kEO bEO .nil pass0 (pa_cons (pe_split (pv 3) pe_str) pa_nil))))
      (pss_cons (ps_if (pt_cmpR (op_inD (Nat.lt_of_le_of_lt (Nat.add_le_add_left (by decide) _) (XT.hu_of hr))) pe_non (pv 2) (by rfl)) (pss_one (ps_raise rfl (takes_of rfl rfl rfl rfl) (pmk_oex TC.oex TC.iC TC.tI GIN (hr.mono (show 1 + 1 ≤ k + 6 by omega)) bIN .nil pass0 (by rfl) gC (pa_cons (pe_bm PySem.F.plainAttrs_list PySem.F.slot_list_index PySem.F.type_list_index (mt_indexD (Nat.lt_of_le_of_lt (Nat.add_le_add_left (by decide) _) (XT.hu_of hr))) (pv 2) (pa_cons pe_non pa_nil)) pa_nil)))) pss_nil)
      (pss_one (ps_ret (pe_makeL (i := 0) mk (GTI.mono (show k + 1 ≤ k + 5 by omega)) hr rfl (.inl rfl) bTI .nil pass0 (pa_cons (pv 2) pa_nil))))))), ?_⟩
    refine ⟨.str x, rfl, rfl, _, rfl, ?_⟩
    by_cases hx : x = ""
    · subst hx
      rw [decide_eq_true rfl]
      refine iteT ⟨rfl, Nat.zero_le _, fun p np => ?_⟩
      exact mk_tab (T := []) (.inl (SqL.of upd_same)) trivial (by decide) fun H' t s _ tab => hq [] rfl H' t ((same_new np).trans s) tab
    · rw [decide_eq_false (show ¬ V.str x = V.str "" from fun z => hx (V.str.inj z))]
      have hn : ("\n" : Str).cps.all (· < 256) = true := by decide +kernel
      have hb : (" " : Str).cps.all (· < 256) = true := by decide +kernel
      have he : ents x = (Txt.split x "\n").map fun r => entw (Txt.split r " ") := by unfold NY.ents NY.rows; rw [if_neg hx]
      have lc := NY.split_count NX.nlk hn x
      have lp := NY.split_part NX.nlk hn x
      refine iteF ⟨.str x, rfl, ⟨_, rfl⟩, x, "\n", rfl, rfl, by decide +kernel, Nat.le_trans (Nat.add_le_add_right hl 2) (by decide), fun S nS => ?_⟩
      generalize Txt.split x "\n" = rs at he lc lp ⊢
      have sS := same_new (o := .lst (rs.map V.str)) nS
      have eS := upd_same (H := H) (a := S) (o := .lst (rs.map V.str))
      generalize upd H S (.lst (rs.map V.str)) = H0 at sS eS ⊢
      refine ⟨S, rfl, ⟨_, SqL.of eS⟩, fun D nD => ?_⟩
      refine lc_list (K := K) (a := S) (xs := rs.map V.str) (fun i Hz => Same H0 Hz ∧ ∃ acc, Hz D = some (.lst acc) ∧ EAt Hz acc ((rs.take i).map fun r => entw (Txt.split r " "))) ⟨same_new nD, [], upd_same, trivial⟩ (fun i Hz _ z => SqL.of (z.1 _ _ eS)) ?_ ?_
      · rintro i y Hz hy ⟨sz, acc, eD, tr⟩
        obtain ⟨r, hr, rfl⟩ := strs_at hy
        have hi := (List.getElem?_eq_some_iff.mp hr).1
        have lr := lp r (List.mem_of_getElem? hr)
        have lw := NY.split_count NX.blk hb r
        have lq := NY.split_part NX.blk hb r
        have al := tr.len
        rw [List.length_map, List.length_take] at al
        refine ⟨rfl, iteT (B := True) ⟨.str r, rfl, ⟨_, rfl⟩, r, " ", rfl, rfl, by decide +kernel, Nat.le_trans (Nat.add_le_add_right (Nat.le_trans lr hl) 2) (by decide), fun W nW => ?_⟩⟩
        have sW := same_new (o := .lst ((Txt.split r " ").map V.str)) nW
        have eW := upd_same (H := Hz) (a := W) (o := .lst ((Txt.split r " ").map V.str))
        generalize upd Hz W (.lst ((Txt.split r " ").map V.str)) = H2 at sW eW ⊢
        have step : ∀ (H' : Hp) (v : V) (o : Option Ent), Same H2 H' → entw (Txt.split r " ") = o → (match o with | none => v = .non | some e => ∃ p, v = .ref p ∧ H' p = some (tri e)) →
            ∃ acc', H' D = some (.lst acc') ∧ acc'.length < sizeLine ∧ (Same H0 (upd H' D (.lst (acc' ++ [v]))) ∧ ∃ acc, (upd H' D (.lst (acc' ++ [v]))) D = some (.lst acc) ∧ EAt (upd H' D (.lst (acc' ++ [v]))) acc ((rs.take (i + 1)).map fun r => entw (Txt.split r " "))) := fun H' v o s ho hv => by
          have s3 := sW.trans s
          have eD3 := s3 _ _ eD
          refine ⟨acc, eD3, Nat.lt_of_le_of_lt (show acc.length ≤ 30000 by omega) (by decide), same_again nD (sz.trans s3), acc ++ [v], upd_same, ?_⟩
          rw [List.take_add_one, hr, Option.toList_some, List.map_append]
          refine ((tr.same s3).app (?_ : EAt H' [v] [entw (Txt.split r " ")])).mp fun p e q => by rw [upd_ne (fun z => by rw [z, eD3] at q; cases q)]; exact q
          rw [ho]
          exact ⟨hv, trivial⟩
        refine ⟨W, _, rfl, eW, by omega, fun x hx => Nat.le_trans (lq x hx) (by omega), fun H' s z => step H' .non none s z rfl, fun H' p e2 s z hp => step H' (.ref p) (some e2) s z ⟨p, rfl, hp⟩⟩
      rintro H1 ⟨s1, acc, eD, tr⟩
      rw [List.length_map, List.take_length, ← he] at tr
      have al := tr.len
      have lo : (ents x).length ≤ 20001 := by rw [he, List.length_map]; omega
      refine ⟨.ref D, rfl, .none, dEs (ents x), .non, .lst (SqL.of eD) (dp_es tr), by decide +kernel, shaped_es _, _, rfl, ?_⟩
      rw [any_es]
      cases hn : (ents x).any Option.isNone with
      | true =>
        obtain ⟨j, hj, hm⟩ := first_none hn
        refine iteT ⟨.ref D, rfl, .inl ⟨rfl, _, SqL.of eD⟩, D, .non, .none, dEs (ents x), j, .none, rfl, rfl, .lst (SqL.of eD) (dp_es tr), .non, shaped_es _, by decide +kernel, ?_, rfl, fun m z' hmj hz => ?_, ?_⟩
        · unfold dEs
          rw [List.getElem?_map, hj]
          rfl
        · unfold dEs at hz
          rw [List.getElem?_map] at hz
          obtain ⟨o, ho, rfl⟩ := Option.map_eq_some_iff.mp hz
          rw [dO_none]
          cases o with
          | none => exact absurd ho (hm m hmj)
          | some _ => rfl
        · exact init_ends fun dy ndy => hE j hj hm H1 dy (sS.trans s1) ndy
      | false =>
        obtain ⟨es, hes⟩ := all_some hn
        rw [hes] at tr
        have tr2 := tr.trips
        have les := tr2.length
        refine iteF ⟨rfl, .ref D, rfl, ?_⟩
        exact mk_tab (.inl (SqL.of eD)) tr2 (by omega) fun H' t s _ tab => hq es hes H' t (sS.trans (s1.trans s)) tab
end
end X5P

/-! enumerate of a tuple -/
namespace GE
open PySem PySem.Spec PyProof.Rows L2
/-- the tuple at a, each item in a new pair -/
def IteT (K : PySem.W.Frag) (a : Addr) : It :=
  ⟨fun i H => ∃ (xs : List V) (x : V), SqT K H a xs ∧ xs[i]? = some x, fun i H v H' => ∃ T x, v = .ref T ∧ H T = none ∧ H' = upd H T (.tup [.int (i : Nat), x]) ∧ ∀ xs, SqT K H a xs → xs[i]? = some x, fun i H => ∃ xs : List V, SqT K H a xs ∧ xs.length ≤ i⟩
theorem turn_enumT {P : Program} {w : World} {K : PySem.W.Frag} {elts : List Expr} {kk : Nat} {tpos : Pos} (a e it : Addr) :
    Turn P w K (.Tuple elts kk tpos) (IteT K a) [e, it] e (fun i h => (∃ old, IsEnum h e it ((i : Nat) : Int) old) ∧ h.IsTupleIter it a i ∧ e ≠ it) where
  mem := by simp
  obj := fun i h st b hb => by
    obtain ⟨⟨old, he⟩, ⟨o, ho, hc, hd⟩, _⟩ := st
    have e' : b = e ∨ b = it := by simpa using hb
    rcases e' with z | z
    · rw [z]; exact ⟨_, he, fun v q => nomatch q⟩
    · rw [z]; exact ⟨o, ho, fun v q => by rw [hd] at q; cases q⟩
  keep := fun i h h' st k => let ⟨⟨old, he⟩, hi, hne⟩ := st; ⟨⟨old, k e (by simp) _ he⟩, hi.at fun o q => k it (by simp) o q, hne⟩
  item := by
    intro X hP hw hK hc i pins s σ H E I hf st hg
    subst hP hw hK
    obtain ⟨⟨old, he⟩, hit, hne⟩ := st
    obtain ⟨xs, x, hq, hx⟩ := hg
    obtain ⟨its, rv, p, hz⟩ := I.tuple hq
    obtain ⟨u, hu, ru⟩ := rv.get hx
    have p2 : s.heap.IsTuple a its.toArray := p
    have hel : e < s.heap.objs.size := Heap.lt_size he
    have hil : it < s.heap.objs.size := by obtain ⟨_, q, _⟩ := hit; exact Heap.lt_size q
    have nai : a ≠ it := fun z => by
      obtain ⟨o1, g1, c1, _⟩ := hit
      obtain ⟨o2, g2, c2, _⟩ := p2
      rw [z, g1] at g2
      cases g2
      rw [c1] at c2
      exact absurd (Value.type.inj c2) (by decide)
    have nae : e ≠ a := fun z => by
      obtain ⟨o2, g2, c2, _⟩ := p2
      have g1 := he
      rw [z] at g1
      rw [g1] at g2
      cases g2
      exact absurd (Value.type.inj c2) (by decide)
    have hlt : i < its.toArray.size := by
      have := (List.getElem?_eq_some_iff.mp hu).1
      simpa using this
    refine wpAny_pyNext_enum_itemD (Draws.tuple (prog := X.prog) (w := X.w) (A := X.A.in1) (I.ok.hd hc) it a nai its.toArray) he ⟨hit, p2⟩ hlt hne (by simp [hne, nae]) fun x' h' tk px ho st' hT hsz hk => ?_
    have ex : x' = u := by
      have px2 : its[i]? = some x' := by simpa using px
      rw [hu] at px2
      exact (Option.some.inj px2).symm
    subst ex
    refine ⟨_, rfl, wpAny_letOwnedTupleGo_enum (s := { s with heap := h', toks := tk + 1 }) ho fun h'' he' sb => ?_⟩
    have hT2 : h''.get? s.heap.objs.size = some { cls := .type "tuple", data := .seq #[.int i tk, x'] } := (sb.2 _ (Nat.ne_of_gt hel)).trans hT
    have new : ObjOk X.prog X.w (upd H s.heap.objs.size (.tup [.int (i : Nat), x])) h'' s.heap.objs.size (.tup [.int (i : Nat), x]) :=
      ⟨by show 2 ≤ sizeLine; decide, [.int i tk, x'], .cons ⟨_, rfl⟩ (.cons ru .nil), ⟨_, hT2, rfl, _, rfl⟩⟩
    have I1 : Inv X pins σ (upd H s.heap.objs.size (.tup [.int (i : Nat), x])) { s with heap := h'', toks := tk + 1 } :=
      I.turnedNew (ch := [e, it]) (fun b ob hb q => (sb.2 b (fun z => hb (by simp [z]))).trans (hk b ob (fun z => hb (by simp [z])) (fun z => hb (by simp [z])) q)) hf (Nat.le_refl _) new
    refine ⟨.ref s.heap.objs.size, _, I1, rfl, ⟨_, x, rfl, I.hok.fresh (Nat.le_refl _), rfl, fun ys hy => by rw [I.tuple_inj hy hq]; exact hx⟩, ⟨⟨x', ?_⟩, st'.1.at fun o q => (sb.2 it (Ne.symm hne)).trans q, hne⟩, fun b hb => ?_⟩
    · have e1 : ((i + 1 : Nat) : Int) = (i : Int) + 1 := by omega
      rw [e1]; exact he'
    · have hb' : b < s.heap.objs.size := by
        have e' : b = e ∨ b = it := by simpa using hb
        rcases e' with z | z
        · rw [z]; exact hel
        · rw [z]; exact hil
      rw [upd_ne (Nat.ne_of_lt hb')]
      exact (hf b hb).1
  done := by
    intro X hP hw hK hc i pins s σ H E I hf st hg
    subst hP hw hK
    obtain ⟨⟨old, he⟩, hit, hne⟩ := st
    obtain ⟨xs, hq, hx⟩ := hg
    obtain ⟨its, rv, p, hz⟩ := I.tuple hq
    have p2 : s.heap.IsTuple a its.toArray := p
    obtain ⟨f0, f1, f2, f3, f4, f5⟩ := hf it (by simp)
    have hl := rv.length
    have D : Draws X.prog X.w X.A.in1 it [it, a] i (fun _ _ => True) (fun j h => j = i ∧ h.IsTupleIter it a i ∧ h.IsTuple a its.toArray) :=
      { live := fun _ _ st => let ⟨o, ho, _⟩ := st.2.1; ⟨o, ho⟩
        frame := fun _ _ _ st hk => ⟨st.1, st.2.1.at fun o e => hk it (by simp) o e, st.2.2.at fun o e => hk a (by simp) o e⟩
        item := fun j s Q E hj st _ => absurd st.1 (Nat.ne_of_lt hj)
        done := fun s Q E st hE => wpAny_nextOf_tuple_end (I.ok.hd hc) st.2.1 st.2.2 (by simp; omega) hE }
    exact wpAny_pyNext_enum_endD D he ⟨rfl, hit, p2⟩ fun h' eb => ⟨rfl, I.turned (t' := s.toks) (fun b o hb q => eb b o hb q) f0 f1 f3 f4 f5⟩
  self := fun A i s Q E st h => let ⟨⟨_, he⟩, _⟩ := st; wpAny_pyIter_enum he h
theorem meets_enum1 {v : Value} {o : Obj} {H : Heap → Prop} (B : Begins v o H) :
    Meets (Builtin.«enumerate.__new__» ⟨[.type "enumerate", v], []⟩) (fun _ R s => H s.heap ∧
      R (.ok (.ret (.ref (s.heap.push o).objs.size))) { s with heap := (s.heap.push o).push { cls := .type "enumerate", data := .fields #[.none, .bool false, .ref s.heap.objs.size, rawInt 0, .none, .none] } }) :=
  .of_wp fun prog w A R s h => by
    obtain ⟨hp, g, d, tk, os⟩ := s
    obtain ⟨h1, h⟩ := h
    have hsub := sub_enumerate
    have q1 : ∀ {A' : Around} {E : Value → Shared → Prop} {Q : Value → Shared → Prop}, Q (.ref hp.objs.size) ⟨hp.push o, g, d, tk, os⟩ → wpAny (model prog w) A' (pyIter v) Q E ⟨hp, g, d, tk, os⟩ :=
      fun q => B.iter prog w _ _ ⟨hp, g, d, tk, os⟩ _ h1 q
    wp_walk using q1
    refine wpAny_stack_any fun st => wpAny_pure ?_
    split
    · rename_i c _ _ _ _ _
      cases (c == Value.type "enumerate")
      · wp_walk using q1
        exact ⟨_, rfl, h⟩
      · wp_walk using q1
        exact ⟨_, rfl, h⟩
    · wp_walk using q1
      exact ⟨_, rfl, h⟩
theorem call_enum1 {prog : Program} {w : World} {A : Around} {E : Value → Shared → Prop} {s : Shared} {t : Addr} {o : Obj} {H : Heap → Prop} {Q : Value → Shared → Prop} (B : Begins (.ref t) o H) (h1 : H s.heap)
    (h : ∀ h', IsEnum h' (s.heap.objs.size + 1) s.heap.objs.size 0 .none → h'.get? s.heap.objs.size = some o → h'.objs.size = s.heap.objs.size + 2 →
      (∀ b o, s.heap.get? b = some o → h'.get? b = some o) → Q (.ref (s.heap.objs.size + 1)) { s with heap := h' }) :
    wpAny (model prog w) A (call (.type "enumerate") [.ref t]) Q E s := by
  refine callType_new F.called_enumerate (by decide) (F.typeCall_enumerate_1 _) (F.newCall_enumerate_1 _) (fun obj => F.args_object_init_2 obj _) F.entry_enumerate_new (meets_enum1 B) ⟨h1, ?_⟩
  have hz : (s.heap.push o).objs.size = s.heap.objs.size + 1 := Heap.size_push ..
  show _ ∧ _
  rw [hz]
  have he : IsEnum ((s.heap.push o).push { cls := .type "enumerate", data := .fields #[.none, .bool false, .ref s.heap.objs.size, rawInt 0, .none, .none] }) (s.heap.objs.size + 1) s.heap.objs.size 0 .none := by
    have := Heap.get?_push_size (s.heap.push o) (o := { cls := .type "enumerate", data := .fields #[.none, .bool false, .ref s.heap.objs.size, rawInt 0, .none, .none] }) rfl
    rw [hz] at this
    exact this
  exact ⟨⟨_, he, rfl⟩, h _ he (Heap.get?_push_of_some _ (Heap.get?_push_size _ B.free)) (by rw [Heap.size_push, hz]) fun b o x => Heap.get?_push_of_some _ (Heap.get?_push_of_some _ x)⟩
/-- enumerate of a list or a tuple -/
def iEnumB (K : PySem.W.Frag) (ta : TA) : TI := fun σ H R => ta σ H fun vs H1 => ∃ a, vs = [.ref a] ∧ ((∃ xs, SqL K H1 a xs ∧ R (Ite K a) H1) ∨ ∃ xs, SqT K H1 a xs ∧ R (IteT K a) H1)
theorem pi_enumB {X : Cx} {e : Expr} {ta : TA} {p pos tpos : Pos} {elts : List Expr} {kk : Nat} (hg : Gl X "enumerate") (hm : X.mg "enumerate" = none) (ha : PA X [e] ta) (hs : starEach [e] X.env = [(false, eval e X.env)] := by rfl) :
    PI X (.Tuple elts kk tpos) (.Call (.Name "enumerate" p) [e] [] pos) (iEnumB X.K ta) := by
  refine ⟨fun pins s σ H R I h => ?_⟩
  refine Call_ (ld_blt I hg hm boot_enumerate (PyProof.Rows.callWith_type1 (thn (ha.run pos pins s σ H _ I h) fun us s1 ⟨vs, H1, I1, r1, q1⟩ => ?_) hs rfl))
  obtain ⟨a, ex, q⟩ := q1
  subst ex
  have top : ∀ b, b ∈ [s1.heap.objs.size + 1, s1.heap.objs.size] → s1.heap.objs.size ≤ b := fun b hb => by
    have e' : b = s1.heap.objs.size + 1 ∨ b = s1.heap.objs.size := by simpa using hb
    rcases e' with z | z
    · rw [z]; exact Nat.le_add_right _ _
    · rw [z]; exact Nat.le_refl _
  cases r1 with
  | cons r rr =>
    cases rr
    cases r
    rcases q with ⟨xs, hq, q⟩ | ⟨xs, hq, q⟩
    · obtain ⟨its, rv, p', hz⟩ := I1.list hq
      refine call_enumerate_list p'.isList fun h' he hit hsz hk => wpAny_pyIter_enum he ?_
      have I2 : Inv X pins σ H1 { s1 with heap := h' } := I1.kept (t' := s1.toks) hk
      exact ⟨s1.heap.objs.size + 1, [s1.heap.objs.size + 1, s1.heap.objs.size], _, _, H1, rfl, I2, turn_enum a (s1.heap.objs.size + 1) s1.heap.objs.size, ⟨⟨.none, he⟩, hit, Nat.succ_ne_self _⟩, fun b hb => I1.fpOk (top b hb) (I1.hok.fresh (top b hb)), q⟩
    · obtain ⟨its, rv, p', hz⟩ := I1.tuple hq
      have p2 : s1.heap.IsTuple a its.toArray := p'
      refine call_enum1 (begins_tuple a its.toArray) p2 fun h' he hit hsz hk => wpAny_pyIter_enum he ?_
      have I2 : Inv X pins σ H1 { s1 with heap := h' } := I1.kept (t' := s1.toks) hk
      exact ⟨s1.heap.objs.size + 1, [s1.heap.objs.size + 1, s1.heap.objs.size], _, _, H1, rfl, I2, turn_enumT a (s1.heap.objs.size + 1) s1.heap.objs.size, ⟨⟨.none, he⟩, ⟨_, hit, rfl, rfl⟩, Nat.succ_ne_self _⟩, fun b hb => I1.fpOk (top b hb) (I1.hok.fresh (top b hb)), q⟩
theorem walk_enumT {K : PySem.W.Frag} {a : Addr} {xs : List V} : Walk (IteT K a) xs.length (fun H => SqT K H a xs) (YPair (fun i => some (.int (i : Nat))) (fun i => xs[i]?)) :=
  ⟨fun i H hi q => ⟨xs, xs[i], q, by simp [hi]⟩, fun H q => ⟨xs, q, Nat.le_refl _⟩, fun i H v H' _ q y => by
    obtain ⟨T, x, h1, h2, h3, h4⟩ := y
    exact ⟨T, _, x, h1, h2, h3, rfl, h4 xs q⟩⟩
/-- enumerate of a list or a tuple: a walk over it, by what it gives -/
def iEnumS (K : PySem.W.Frag) (ta : TA) : TI := fun σ H R => ta σ H fun vs H1 => ∃ a xs, vs = [.ref a] ∧ PH.Sq K H1 a xs ∧
  ∀ (J : It) (G : Hp → Prop), Walk J xs.length G (YPair (fun i => some (.int (i : Nat))) (fun i => xs[i]?)) → (∀ H', L2.Same H1 H' → G H') → R J H1
theorem pi_enumS {X : Cx} {e : Expr} {ta : TA} {p pos tpos : Pos} {elts : List Expr} {kk : Nat} (hg : Gl X "enumerate") (hm : X.mg "enumerate" = none) (ha : PA X [e] ta) (hs : starEach [e] X.env = [(false, eval e X.env)] := by rfl) :
    PI X (.Tuple elts kk tpos) (.Call (.Name "enumerate" p) [e] [] pos) (iEnumS X.K ta) := by
  refine ⟨fun pins s σ H R I h => ?_⟩
  refine Call_ (ld_blt I hg hm boot_enumerate (PyProof.Rows.callWith_type1 (thn (ha.run pos pins s σ H _ I h) fun us s1 ⟨vs, H1, I1, r1, q1⟩ => ?_) hs rfl))
  obtain ⟨a, xs, ex, hq, q⟩ := q1
  subst ex
  have top : ∀ b, b ∈ [s1.heap.objs.size + 1, s1.heap.objs.size] → s1.heap.objs.size ≤ b := fun b hb => by
    have e' : b = s1.heap.objs.size + 1 ∨ b = s1.heap.objs.size := by simpa using hb
    rcases e' with z | z
    · rw [z]; exact Nat.le_add_right _ _
    · rw [z]; exact Nat.le_refl _
  cases r1 with
  | cons r rr =>
    cases rr
    cases r
    rcases hq with hq | hq
    · obtain ⟨its, rv, p', hz⟩ := I1.list hq
      refine call_enumerate_list p'.isList fun h' he hit hsz hk => wpAny_pyIter_enum he ?_
      have I2 : Inv X pins σ H1 { s1 with heap := h' } := I1.kept (t' := s1.toks) hk
      exact ⟨s1.heap.objs.size + 1, [s1.heap.objs.size + 1, s1.heap.objs.size], _, _, H1, rfl, I2, turn_enum a (s1.heap.objs.size + 1) s1.heap.objs.size, ⟨⟨.none, he⟩, hit, Nat.succ_ne_self _⟩, fun b hb => I1.fpOk (top b hb) (I1.hok.fresh (top b hb)), q _ _ walk_enum fun H' s => s.seq hq⟩
    · obtain ⟨its, rv, p', hz⟩ := I1.tuple hq
      have p2 : s1.heap.IsTuple a its.toArray := p'
      refine call_enum1 (begins_tuple a its.toArray) p2 fun h' he hit hsz hk => wpAny_pyIter_enum he ?_
      have I2 : Inv X pins σ H1 { s1 with heap := h' } := I1.kept (t' := s1.toks) hk
      exact ⟨s1.heap.objs.size + 1, [s1.heap.objs.size + 1, s1.heap.objs.size], _, _, H1, rfl, I2, turn_enumT a (s1.heap.objs.size + 1) s1.heap.objs.size, ⟨⟨.none, he⟩, ⟨_, hit, rfl, rfl⟩, Nat.succ_ne_self _⟩, fun b hb => I1.fpOk (top b hb) (I1.hok.fresh (top b hb)), q _ _ walk_enumT fun H' s => KA.SqT_same s hq⟩
end GE

/-! e.m(..), m a classmethod that may raise, within a try -/
namespace GCM
open PySem PySem.Spec PyProof.Rows L2 ClX
section
variable {X : Cx} {CX : CXT} {k : Nat} {C p g q : Addr} {mc : Value} {sp : Sp} {E : L2.St → XK} {o e : Expr} {es : List Expr} {f m : Str} {pos apos : Pos} {ta : TE} {t : TA} {pl : Sem Bool} {pins : List (Addr × Obj)} {σ : L2.St} {H : Hp} {s : Shared} {Q : VK} {us : List Value} {vs : List V}
theorem run_fnRS (F : FnR X.prog X.w X.K X.mg X.base CX k g sp) (hr : Room k X.A) (hx : PassesAt CX X σ (E σ)) (I : Inv X pins σ H s) (r : Vals vs us) (h : sp vs H Q (E σ)) :
    codeAny (model X.prog X.w) X.A (.call (.ref g) ⟨us, []⟩) (fun r s' => match r with | .ok (.ret v) => EP X pins σ Q v s' | .ok _ => False | .error e => X.xe e s') s := by
  refine codeAny_mono (F X.A X.stack s H us vs Q (E σ) hr I.env0 r h) fun r s' hq => ?_
  cases r with
  | error e => exact hx pins H s e s' I hq
  | ok fl =>
    cases fl with
    | ret u => exact I.after hq
    | next => exact False.elim hq
    | brk => exact False.elim hq
    | cont => exact False.elim hq
theorem run_cmS (F : FnR X.prog X.w X.K X.mg X.base CX k g sp) (hr : Room k X.A) (hx : PassesAt CX X σ (E σ)) (I : Inv X ((q, PySem.W.methodObj (.ref g) (.ref C)) :: pins) σ H s)
    (r : Vals vs us) (h : sp (.ref C :: vs) H Q (E σ)) : wpAny (model X.prog X.w) X.A (call (.ref q) us) (EP X pins σ Q) X.xe s := by
  have z : wpAny (model X.prog X.w) X.A (call (.ref q) us) (EP X ((q, PySem.W.methodObj (.ref g) (.ref C)) :: pins) σ Q) X.xe s :=
    wpAny_call (PySem.W.method_call (pin_at I) (run_fnRS (us := .ref C :: us) (vs := .ref C :: vs) F hr hx I (.cons rfl r) h))
  exact thn z fun _ _ y => unpinE y
def tCMethS (C : Addr) (sp : Sp) (E : L2.St → XK) (ta : TE) (t : TA) : TE := fun σ H Q => ta σ H fun x H1 => x = .ref C ∧ t σ H1 fun vs H2 => sp (.ref C :: vs) H2 Q (E σ)
theorem pe_cmethS (he : PE X o ta) (r : CRead X.K C mc) (c : CMet X.K C mc m p g) (F : FnR X.prog X.w X.K X.mg X.base CX k g sp) (hr : Room k X.A) (hx : ∀ σ, PassesAt CX X σ (E σ)) (ha : PA X (e :: es) t)
    (hst : starEach (e :: es) X.env = (false, eval e X.env) :: starEach es X.env := by rfl) (hpl : (backTo pos (starEach es X.env)).any (·.1) = false := by rfl)
    (ht : eval (.Call (.Attribute o m apos) (e :: es) [] pos) X.env = (do
      let ov ← eval o X.env
      standAt apos.atName
      let (f, first) ← holding [ov] (getMethod ov m pl)
      callWith pos f first (backTo pos (starEach (e :: es) X.env)) (backToKw pos (keywordEach [] X.env))) := by rfl) :
    PE X (.Call (.Attribute o m apos) (e :: es) [] pos) (tCMethS C sp E ta t) := by
  refine ⟨fun pins s σ H Q I h => ?_⟩
  refine PySem.W.methodCall_KW (pl := pl) (thn (he.run pins s σ H _ I h) fun u s1 ⟨x, H1, I1, rx, ex, q⟩ => ?_) ht
  subst ex
  obtain rfl : u = Value.ref C := rx
  refine getmethcm_ok I1 r c fun s2 I2 => ?_
  refine callwith_cm I2 (base_none I1 (Nat.le_refl _)) c.fi (thn (ha.run pos _ s2 σ H1 _ I2 q) fun us s3 ⟨vs, H2, I3, rv, q2⟩ => ⟨⟨pin_at I3, I3.kIn⟩, ?_⟩) hst hpl
  exact run_cmS F hr (hx σ) I3 rv q2
end
end GCM

set_option pp.maxSteps 900
/-! k51: the law's own numbers and rows, what parse tells -/
namespace X5R
open PySem PySem.Spec PyProof.Rows L2 KA KD PH PM RM K52b XU GML XE Z5K X5P
open XT hiding pairs_get
open NX (Val entw rdw tI okE)
open NY (ents rows)
abbrev sLN : Stmt := topS 22
abbrev sDU : Stmt := topS 23
abbrev sTO : Stmt := topS 24
theorem scLN : FnScope ["word", "digits", "sign"] ["word"] (defScope sLN) := ⟨rfl, rfl, rfl, by decide +kernel, rfl, by decide +kernel, by decide +kernel⟩
theorem scDU : FnScope ["text", "number", "row", "values", "word"] ["text"] (defScope sDU) := ⟨rfl, rfl, rfl, by decide +kernel, rfl, by decide +kernel, by decide +kernel⟩
theorem scTO : FnScope ["text", "caught", "found", "error"] ["text"] (defScope sTO) := ⟨rfl, rfl, rfl, by decide +kernel, rfl, by decide +kernel, by decide +kernel⟩
theorem cut1 (z : Str) : TL.tl (cutS z none (some ((1 : Nat) : Int))) = (TL.tl z).take 1 := by
  show (z.cps.toList.drop (HT.sIx z.length 0 none)).take (HT.sIx z.length z.length (some ((1 : Nat) : Int)) - HT.sIx z.length 0 none) = _
  rw [HT.sIx_none, HT.sIx_nat, List.drop_zero, Nat.sub_zero]
  have h : z.length = z.cps.toList.length := TL.len_tl z
  show z.cps.toList.take (min 1 z.length) = z.cps.toList.take 1
  by_cases k : 1 ≤ z.length
  · rw [Nat.min_eq_left k]
  · have : z.cps.toList = [] := List.length_eq_zero_iff.mp (by omega)
    rw [this, List.take_nil, List.take_nil]
theorem cutf (z : Str) : TL.tl (cutS z (some ((1 : Nat) : Int)) none) = (TL.tl z).drop 1 := by
  show (z.cps.toList.drop (HT.sIx z.length 0 (some ((1 : Nat) : Int)))).take (HT.sIx z.length z.length none - HT.sIx z.length 0 (some ((1 : Nat) : Int))) = _
  rw [HT.sIx_none, HT.sIx_nat]
  have h : z.length = z.cps.toList.length := TL.len_tl z
  show (z.cps.toList.drop (min 1 z.length)).take (z.length - min 1 z.length) = z.cps.toList.drop 1
  by_cases k : 1 ≤ z.length
  · rw [Nat.min_eq_left k, List.take_of_length_le (by rw [List.length_drop]; omega)]
  · have : z.cps.toList = [] := List.length_eq_zero_iff.mp (by omega)
    rw [this, List.drop_nil, List.drop_nil, List.take_nil]
def ttS : TT := tTest (tOp (fun x y H Q => ∃ (c : Nat) (z : Str), x = .str ⟨#[c]⟩ ∧ y = .str z ∧ Q (.bl (!decide (c ∈ z.cps.toList))) H) (tVar 2) (tC (V.str "0123456789")))
theorem digs : TL.tl ("0123456789" : Str) = [48, 49, 50, 51, 52, 53, 54, 55, 56, 57] := by decide +kernel
theorem in_digs {c : Nat} : decide (c ∈ ("0123456789" : Str).cps.toList) = (decide (48 ≤ c) && decide (c ≤ 57)) := by
  have e : ("0123456789" : Str).cps.toList = [48, 49, 50, 51, 52, 53, 54, 55, 56, 57] := digs
  rw [e]
  by_cases h : 48 ≤ c ∧ c ≤ 57
  · rw [decide_eq_true h.1, decide_eq_true h.2]
    refine decide_eq_true ?_
    simp only [List.mem_cons, List.not_mem_nil, or_false]
    omega
  · have : (decide (48 ≤ c) && decide (c ≤ 57)) = false := by
      rw [Bool.and_eq_false_iff]
      by_cases k : 48 ≤ c
      · right; exact decide_eq_false (by omega)
      · left; exact decide_eq_false k
    rw [this]
    refine decide_eq_false fun z => ?_
    simp only [List.mem_cons, List.not_mem_nil, or_false] at z
    omega
/-- the signs of a list that are no digits -/
def odds (l : List Nat) : List Nat := l.filter fun c => !(decide (48 ≤ c) && decide (c ≤ 57))
theorem odds_nil {l : List Nat} : odds l = [] ↔ NumText.AllDigits l := by
  unfold odds
  rw [List.filter_eq_nil_iff]
  constructor
  · intro h c hc
    have := h c hc
    simp at this
    omega
  · intro h c hc
    have := h c hc
    simp
    omega
def sgn (c : Nat) : V := .str ⟨#[c]⟩
def dSg (l : List Nat) : List PyData := l.map fun c => .str ⟨#[c]⟩
theorem dp_sg {K : PySem.W.Frag} {H : Hp} : ∀ l : List Nat, DpAll K H (l.map sgn) (dSg l)
  | [] => .nil
  | c :: l => .cons (.str _) (dp_sg l)
theorem lay_sg : ∀ l : List Nat, (∀ c ∈ l, c < 128) → PyData.canLayAll0 (dSg l) = true
  | [], _ => rfl
  | c :: l, h => by
    show (PyData.canLay0 (.str ⟨#[c]⟩) && PyData.canLayAll0 (dSg l)) = true
    rw [lay_sg l fun d hd => h d (List.mem_cons_of_mem _ hd)]
    have hc := h c List.mem_cons_self
    have e : PyData.strOk ⟨#[c]⟩ = true := by
      unfold PyData.strOk
      simp
      omega
    simp only [PyData.canLay0, Bool.and_true]
    exact e
theorem depth_sg : ∀ l : List Nat, PyData.depthAll (dSg l) ≤ 3
  | [] => Nat.zero_le _
  | c :: l => by
    have h := depth_sg l
    show max (PyData.depth (.str ⟨#[c]⟩)) (PyData.depthAll (dSg l)) ≤ 3
    simp only [PyData.depth]
    omega
theorem shaped_sg (l : List Nat) (h : ∀ c ∈ l, c < 128) : SeqAt.shaped (.list (dSg l)) = true :=
  shaped_of (by simp only [PyData.canLay0]; exact lay_sg l h) (by have := depth_sg l; simp only [PyData.depth]; omega)
theorem ev_sg (l : List Nat) : PyData.eqv (.list (dSg l)) (.list []) = decide (l = []) := by
  cases l with
  | nil => rfl
  | cons _ _ => rfl
/-- the word without its sign -/
theorem dig_tl {d x : Str} (h : (∃ l, TL.tl x = 45 :: l ∧ TL.tl d = l) ∨ ((∀ l, TL.tl x ≠ 45 :: l) ∧ d = x)) : d = Txt.removeprefix x "-" := by
  rcases h with ⟨l, h1, h2⟩ | ⟨h1, h2⟩
  · exact TL.ext_tl (by rw [h2, NX.rp_neg h1])
  · rw [NX.rp_pos h1, h2]
theorem rdw_dig {x : Str} {n : Int} (h : rdw x = some n) : 1 ≤ (Txt.removeprefix x "-").length ∧ (Txt.removeprefix x "-").length ≤ 10 ∧ NumText.AllDigits (TL.tl (Txt.removeprefix x "-")) := by
  obtain ⟨rfl, hb⟩ := NY.rdw_back h
  have e := NX.rp_int n
  rw [TL.len_tl, e]
  have l10 := TL.numL_len (n := n.natAbs) (k := 10) (by decide) (Nat.lt_of_le_of_lt hb (by decide))
  refine ⟨?_, l10, TL.numL_digits _⟩
  cases k : TL.numL n.natAbs with
  | nil => exact absurd k (TL.numL_ne _)
  | cons _ _ => exact Nat.succ_pos _
theorem val_lt : ∀ (n : Nat) (cs : List Nat), cs.length = n → NumText.AllDigits cs → NumText.digitsVal cs < 10 ^ n := by
  intro n
  induction n with
  | zero => intro cs h _; rw [List.length_eq_zero_iff.mp h]; decide
  | succ n ih =>
    intro cs hl hd
    rcases List.eq_nil_or_concat cs with e | ⟨ds, c, e⟩
    · rw [e] at hl; cases hl
    rw [List.concat_eq_append] at e
    subst e
    have hc := hd c (by simp)
    rw [List.length_append, List.length_singleton] at hl
    have := ih ds (by omega) fun x hx => hd x (List.mem_append_left _ hx)
    rw [NY.digitsVal_snoc, Nat.pow_succ]
    omega
theorem read_dig {x : Str} (h : NumText.AllDigits (TL.tl (Txt.removeprefix x "-"))) (hne : TL.tl (Txt.removeprefix x "-") ≠ []) (h10 : (Txt.removeprefix x "-").length ≤ 10) (hl : x.length ≤ 4300) : ∃ n : Int, PySem.intText? x = some n ∧ n.natAbs < 2 ^ 39 := by
  have b : NumText.digitsVal (TL.tl (Txt.removeprefix x "-")) < 2 ^ 39 := by
    have := val_lt _ _ rfl h
    rw [TL.len_tl] at h10
    exact Nat.lt_of_lt_of_le this (Nat.le_trans (Nat.pow_le_pow_right (by decide) h10) (by decide))
  by_cases c : ∃ l, TL.tl x = 45 :: l
  · obtain ⟨l, e⟩ := c
    rw [NX.rp_neg e] at h hne b
    exact ⟨_, PySem.intText_neg e h hne hl, by rw [Int.natAbs_neg, Int.natAbs_natCast]; exact b⟩
  · rw [NX.rp_pos fun l z => c ⟨l, z⟩] at h hne b
    exact ⟨_, PySem.intText_digits h hne hl, by rw [Int.natAbs_natCast]; exact b⟩
theorem rp_len {x : Str} : x.length ≤ (Txt.removeprefix x "-").length + 1 ∧ (Txt.removeprefix x "-").length ≤ x.length := by
  by_cases c : ∃ l, TL.tl x = 45 :: l
  · obtain ⟨l, e⟩ := c
    have := NX.rp_neg e
    rw [TL.len_tl, TL.len_tl (Txt.removeprefix x "-"), this, e]
    show l.length + 1 ≤ l.length + 1 ∧ l.length ≤ l.length + 1
    omega
  · rw [NX.rp_pos fun l z => c ⟨l, z⟩]
    omega
theorem rp_sub {x : Str} {c : Nat} (h : c ∈ TL.tl (Txt.removeprefix x "-")) : c ∈ TL.tl x := by
  by_cases k : ∃ l, TL.tl x = 45 :: l
  · obtain ⟨l, e⟩ := k
    rw [NX.rp_neg e] at h
    rw [e]
    exact List.mem_cons_of_mem _ h
  · rw [NX.rp_pos fun l z => k ⟨l, z⟩] at h
    exact h
/-- a text of ASCII signs -/
def Asc (x : Str) : Prop := ∀ c ∈ TL.tl x, c < 128
/-- the first None -/
def fst0 : List (Option Ent) → Option Nat
  | [] => none
  | none :: _ => some 0
  | some _ :: os => (fst0 os).map (· + 1)
theorem fst0_some : ∀ {os : List (Option Ent)} {j : Nat}, os[j]? = some none → (∀ m, m < j → os[m]? ≠ some none) → fst0 os = some j
  | none :: os, 0, _, _ => rfl
  | none :: os, j + 1, _, h => absurd rfl (h 0 (Nat.succ_pos j))
  | some e :: os, 0, h, _ => by cases Option.some.inj h
  | some e :: os, j + 1, h, g => by
    have := fst0_some (os := os) (j := j) h fun m hm => g (m + 1) (by omega)
    show (fst0 os).map (· + 1) = _
    rw [this]
    rfl
  | [], j, h, _ => by cases h
theorem fst0_all : ∀ {os : List (Option Ent)}, (∀ m, m < os.length → os[m]? ≠ some none) → fst0 os = none
  | [], _ => rfl
  | none :: os, h => absurd rfl (h 0 (Nat.succ_pos _))
  | some e :: os, h => by
    have := fst0_all (os := os) fun m hm => h (m + 1) (by rw [List.length_cons]; omega)
    show (fst0 os).map (· + 1) = _
    rw [this]
    rfl
theorem fst0_map : ∀ es : List Ent, fst0 (es.map some) = none
  | [] => rfl
  | e :: es => by
    show (fst0 (es.map some)).map (· + 1) = _
    rw [fst0_map es]
    rfl
/-- what is told of a text: the text, or the row of the error -/
def tld (x : Str) : V := match fst0 (ents x) with
  | some j => .int (j : Int)
  | none => .str x
theorem tld_bad {x : Str} {j : Nat} (h : (ents x)[j]? = some none) (g : ∀ m, m < j → (ents x)[m]? ≠ some none) : tld x = .int (j : Int) := by
  unfold tld
  rw [fst0_some h g]
theorem tld_ok {x : Str} (h : fst0 (ents x) = none) : tld x = .str x := by
  unfold tld
  rw [h]
theorem spl_mem (s : Nat) : ∀ (l acc : List Nat), ∀ p ∈ TL.spl [s] 0 acc l, ∀ c ∈ p, c ∈ acc ∨ c ∈ l
  | [], acc, p, h, c, hc => by rw [TL.spl_nil, List.mem_singleton] at h; rw [h] at hc; exact .inl hc
  | d :: r, acc, p, h, c, hc => by
    by_cases e : d = s
    · rw [TL.spl_hit (by rw [NY.pre1]; exact decide_eq_true e)] at h
      rcases List.mem_cons.mp h with h | h
      · rw [h] at hc; exact .inl hc
      · rcases spl_mem s r [] p h c hc with k | k
        · exact absurd k (by simp)
        · exact .inr (List.mem_cons_of_mem _ k)
    · rw [TL.spl_miss (by rw [NY.pre1]; exact decide_eq_false e)] at h
      rcases spl_mem s r (acc ++ [d]) p h c hc with k | k
      · rcases List.mem_append.mp k with k | k
        · exact .inl k
        · exact .inr (by rw [List.mem_singleton.mp k]; exact List.mem_cons_self)
      · exact .inr (List.mem_cons_of_mem _ k)
theorem split_asc {x y : Str} {s : Nat} (ey : TL.tl y = [s]) (hk : y.cps.all (· < 256) = true) (h : Asc x) : ∀ p ∈ Txt.split x y, Asc p := fun p hp c hc => by
  rcases spl_mem s (TL.tl x) [] (TL.tl p) (by rw [← NY.split_map ey hk]; exact List.mem_map.mpr ⟨p, hp, rfl⟩) c hc with k | k
  · exact absurd k (by simp)
  · exact h c k
theorem ents_len (x : Str) : (ents x).length ≤ x.length + 1 := by
  unfold NY.ents NY.rows
  rw [List.length_map]
  split
  · exact Nat.zero_le _
  · exact NY.split_count NX.nlk (by decide +kernel) x
theorem vsml {es : List Ent} (v : ∀ e ∈ es, Val e) : H8T.Sml es := fun e he => by
  have h := v e he
  exact ⟨Nat.lt_of_le_of_lt h.lo (by decide), Nat.lt_of_le_of_lt h.hi (by decide), by have := h.am; have := h.le; omega⟩
section
variable {P : Program} {w : World} {K : PySem.W.Frag} {mg : Str → Option Value} {base : Heap}
def spLN : Sp := fun vs H Q _ => ∃ x : Str, vs = [.str x] ∧ x.length ≤ 20000 ∧ Asc x ∧ ∀ H', Same H H' → Q (optV (rdw x)) H'
theorem ok_LN {f : Addr} {fd : FuncData} {k : Nat} (F : Fun K "_law_number" "_law_number" sLN f fd) (ml : mg "len" = none) (mi : mg "int" = none) (mst : mg "str" = none) (ma : mg "abs" = none) : FnOk P w K mg base CX0 (k + 1) f fd ["word"] spLN := by
  refine F.ok scLN (fun vs H Q E h => ?_) (fun cdv A outer s H vs Q E hr h => ?_)
  · obtain ⟨x, rfl, _⟩ := h
    rfl
  · obtain ⟨x, rfl, hl, hasc, hq⟩ := h
    refine ⟨_, (pss_cons (ps_set (i := 1) scLN.nd rfl (.inl rfl) (pe_ifExp (pt_cmpR op_eq (pe_slice sl_str (pv 0) po_none (po_some pe_int)) pe_str (nomark _)) (pe_slice sl_str (pv 0) (po_some pe_int) po_none) (pv 0)))
      (pss_cons (ps_if (PW.pt (pw_or (pt_not (pt_chain op_le op_le pe_int (pe_callB call_len_str (by rfl) ml PySem.boot_len (pa_cons (pv 1) pa_nil)) pe_int)) (pw_or1 (pt_cmpR (op_neD hr.units) (pe_lc (own := [("sign", 2)]) (g := gName 2) (tt := ttS) (te := tVar 2) rfl scLN.nd (pi_str (pv 1)) (blkOk_by (own := [("sign", 2)]) (N := ["word", "digits", "sign"]) (sc := defScope sLN) (by decide +kernel)) (fun _ _ _ _ _ => (pg_name (i := 2) scLN.nd rfl (Or.inl rfl) (Or.inr rfl))) (fun _ _ _ _ _ => pts_one (pt_cmpR op_notIn_sign (pv 2) pe_str (by rfl))) (fun _ _ _ _ _ => (pv 2))) (pe_lst pa_nil) (nomark _))))) (pss_one (ps_ret pe_non)) pss_nil)
      (pss_one (ps_ret (pe_ifExp (PW.pt (pw_and (pt_cmpR op_eq (pe_callTy call_str_int (by rfl) mst (by decide +kernel) (pa_cons (pe_callTy call_int_str (by rfl) mi (by decide +kernel) (pa_cons (pv 0) pa_nil)) pa_nil)) (pv 0) (nomark _)) (pw_and1 (pt_cmpR op_le (pe_callB call_abs (by rfl) ma (by decide +kernel) (pa_cons (pe_callTy call_int_str (by rfl) mi (by decide +kernel) (pa_cons (pv 0) pa_nil)) pa_nil)) (pe_op op_pow pe_int pe_int) (nomark _))))) (pe_callTy call_int_str (by rfl) mi (by decide +kernel) (pa_cons (pv 0) pa_nil)) pe_non))))), ?_⟩
    have hz : x.length ≤ sizeLine := Nat.le_trans hl (by decide)
    have no : (∀ n, rdw x = some n → False) → ∀ H', Same H H' → Q .non H' := fun h H' s => by
      have hq := hq H' s
      cases k : rdw x with
      | none => rw [k] at hq; exact hq
      | some n => exact (h n k).elim
    refine ⟨.str x, rfl, 1, rfl, x, rfl, hz, rfl, _, rfl, ?_⟩
    have hc1 := cut1 x
    have hcf := cutf x
    by_cases hm : ∃ l, TL.tl x = 45 :: l
    · obtain ⟨l, hl0⟩ := hm
      rw [decide_eq_true (show V.str (cutS x none (some 1)) = V.str "-" from congrArg V.str (TL.ext_tl (by rw [show (some (1 : Int)) = some ((1 : Nat) : Int) from rfl, hc1, hl0, NX.mi]; rfl)))]
      refine iteT ⟨.str x, rfl, 1, rfl, x, rfl, hz, ?_⟩
      obtain ⟨d, ed⟩ : ∃ d, d = cutS x (some 1) none := ⟨_, rfl⟩
      rw [← ed]
      have hd : d = Txt.removeprefix x "-" := dig_tl (.inl ⟨l, hl0, by rw [ed]; rw [show (some (1 : Int)) = some ((1 : Nat) : Int) from rfl, hcf, hl0]; rfl⟩)
      have dl : d.length ≤ x.length := by rw [hd]; exact rp_len.2
      refine ⟨.str d, rfl, d, rfl, Nat.le_trans dl hz, 1, _, rfl, rfl, _, rfl, ?_⟩
      by_cases h1 : (1 : Int) ≤ (d.length : Int)
      rotate_left
      · rw [decide_eq_false h1]
        exact iteF ⟨_, rfl, iteT (no (fun n hn => h1 (by have := (rdw_dig hn).1; rw [← hd] at this; omega)) _ (Same.refl H))⟩
      rw [decide_eq_true h1]
      refine iteT ⟨_, 10, rfl, rfl, _, rfl, ?_⟩
      by_cases h2 : (d.length : Int) ≤ 10
      rotate_left
      · rw [decide_eq_false h2]
        exact iteT (no (fun n hn => h2 (by have := (rdw_dig hn).2.1; rw [← hd] at this; omega)) _ (Same.refl H))
      rw [decide_eq_true h2]
      refine iteF ⟨.str d, rfl, d, rfl, fun D nD => ?_⟩
      refine lc_it (walk_str (z := d)) (fun i Hz => Same H Hz ∧ Hz D = some (.lst ((odds ((TL.tl d).take i)).map sgn))) ⟨same_new nD, upd_same⟩ (fun _ _ _ _ => trivial) ?_ ?_
      · rintro i v Hz Hy hi ⟨sz, eD⟩ ⟨rfl, c, hc, rfl⟩
        have hc2 : (TL.tl d)[i]? = some c := by rw [Array.getElem?_toList]; exact hc
        have lo : (odds ((TL.tl d).take i)).length ≤ 10 := by
          have a1 : (odds ((TL.tl d).take i)).length ≤ ((TL.tl d).take i).length := List.length_filter_le _ _
          have a2 := TL.len_tl d
          rw [List.length_take] at a1
          omega
        have st : odds ((TL.tl d).take (i + 1)) = odds ((TL.tl d).take i) ++ odds [c] := by
          unfold odds
          rw [List.take_add_one, hc2, Option.toList_some, List.filter_append]
        refine ⟨rfl, .str ⟨#[c]⟩, rfl, c, "0123456789", rfl, rfl, _, rfl, ?_⟩
        rw [in_digs]
        cases k : (decide (48 ≤ c) && decide (c ≤ 57)) with
        | true =>
          refine iteF ⟨sz, ?_⟩
          have e : odds [c] = [] := by unfold odds; simp [List.filter, k]
          rw [st, e, List.append_nil]
          exact eD
        | false =>
          refine iteT ⟨.str ⟨#[c]⟩, rfl, _, eD, ?_, same_again nD sz, ?_⟩
          · rw [List.length_map]; exact Nat.lt_of_le_of_lt lo (by decide)
          · have e : odds [c] = [c] := by unfold odds; simp [List.filter, k]
            rw [upd_same, st, e, List.map_append]
            rfl
      rintro H1 ⟨s1, eD⟩
      rw [List.take_of_length_le (show (TL.tl d).length ≤ d.cps.size by rw [← TL.len_tl]; exact Nat.le_refl _)] at eD
      refine ⟨Nat.zero_le _, fun z nz => ?_⟩
      have sz := same_new (o := .lst []) nz
      have hsh : ∀ c ∈ odds (TL.tl d), c < 128 := fun c hc => by
        have := (List.mem_filter.mp hc).1
        rw [hd] at this
        exact hasc c (rp_sub this)
      refine ⟨.list (dSg (odds (TL.tl d))), .list [], .lst (SqL.of (sz _ _ eD)) (dp_sg _), .lst (SqL.of upd_same) .nil, shaped_sg _ hsh, shaped_lst [], _, rfl, ?_⟩
      rw [ev_sg]
      have s2 := s1.trans sz
      generalize upd H1 z (.lst []) = H2 at s2 ⊢
      by_cases ho : odds (TL.tl d) = []
      rotate_left
      · rw [decide_eq_false ho]
        exact iteT (no (fun n hn => ho (odds_nil.mpr (by rw [hd]; exact (rdw_dig hn).2.2))) _ s2)
      rw [decide_eq_true ho]
      have ad := odds_nil.mp ho
      rw [hd] at ad
      have hx11 := (rp_len (x := x)).1
      rw [← hd] at hx11
      obtain ⟨n, hn, hb⟩ := read_dig ad (fun z => by rw [← hd] at z; have a := TL.len_tl d; rw [z] at a; have e0 : ([] : List Nat).length = 0 := rfl; omega) (by rw [← hd]; omega) (by omega)
      refine iteF ⟨.str x, rfl, x, n, rfl, hn, by omega, n, rfl, WN.ti_log hb, .str x, rfl, rfl, _, rfl, ?_⟩
      by_cases e : tI n = x
      rotate_left
      · rw [decide_eq_false (show ¬ V.str (Str.ofString (toString n)) = V.str x from fun z => e (V.str.inj z))]
        refine iteF (no (fun k hk => ?_) _ s2)
        obtain ⟨a1, a2⟩ := NY.rdw_back hk
        have := NX.read_int a2
        rw [← a1, hn] at this
        exact e (by rw [Option.some.inj this]; exact a1.symm)
      · rw [decide_eq_true (show V.str (Str.ofString (toString n)) = V.str x from congrArg V.str e)]
        refine iteT ⟨.str x, rfl, x, n, rfl, hn, by omega, n, rfl, 10, 9, rfl, rfl, ⟨by decide, by decide, by decide⟩, _, _, rfl, rfl, _, rfl, ?_⟩
        by_cases b : n.natAbs ≤ 1000000000
        · have b2 : (if n < 0 then -n else n) ≤ (10 : Int) ^ (9 : Int).toNat := by
            have e9 : (10 : Int) ^ (9 : Int).toNat = 1000000000 := by decide
            rw [e9]
            split <;> omega
          rw [decide_eq_true b2]
          refine iteT ⟨.str x, rfl, x, n, rfl, hn, by omega, ?_⟩
          have hq := hq _ s2
          rw [show rdw x = some n by rw [← e]; exact NX.rdw_int b] at hq
          exact hq
        · have b2 : ¬ (if n < 0 then -n else n) ≤ (10 : Int) ^ (9 : Int).toNat := by
            have e9 : (10 : Int) ^ (9 : Int).toNat = 1000000000 := by decide
            rw [e9]
            split <;> omega
          rw [decide_eq_false b2]
          refine iteF (no (fun k hk => ?_) _ s2)
          obtain ⟨a1, a2⟩ := NY.rdw_back hk
          have := NX.read_int a2
          rw [← a1, hn] at this
          exact b (by rw [Option.some.inj this]; exact a2)
    · rw [decide_eq_false (show ¬ V.str (cutS x none (some 1)) = V.str "-" from fun z => hm (by
        have z2 := congrArg TL.tl (V.str.inj z)
        rw [show (some (1 : Int)) = some ((1 : Nat) : Int) from rfl, hc1, NX.mi] at z2
        cases k : TL.tl x with
        | nil => rw [k] at z2; cases z2
        | cons c l => rw [k] at z2; exact ⟨l, by rw [show c = 45 from (List.cons.inj z2).1]⟩))]
      refine iteF ⟨.str x, rfl, ?_⟩
      have hd : x = Txt.removeprefix x "-" := dig_tl (.inr ⟨fun l z => hm ⟨l, z⟩, rfl⟩)
      have dl : x.length ≤ x.length := Nat.le_refl _
      refine ⟨.str x, rfl, x, rfl, Nat.le_trans dl hz, 1, _, rfl, rfl, _, rfl, ?_⟩
      by_cases h1 : (1 : Int) ≤ (x.length : Int)
      rotate_left
      · rw [decide_eq_false h1]
        exact iteF ⟨_, rfl, iteT (no (fun n hn => h1 (by have := (rdw_dig hn).1; rw [← hd] at this; omega)) _ (Same.refl H))⟩
      rw [decide_eq_true h1]
      refine iteT ⟨_, 10, rfl, rfl, _, rfl, ?_⟩
      by_cases h2 : (x.length : Int) ≤ 10
      rotate_left
      · rw [decide_eq_false h2]
        exact iteT (no (fun n hn => h2 (by have := (rdw_dig hn).2.1; rw [← hd] at this; omega)) _ (Same.refl H))
      rw [decide_eq_true h2]
      refine iteF ⟨.str x, rfl, x, rfl, fun D nD => ?_⟩
      refine lc_it (walk_str (z := x)) (fun i Hz => Same H Hz ∧ Hz D = some (.lst ((odds ((TL.tl x).take i)).map sgn))) ⟨same_new nD, upd_same⟩ (fun _ _ _ _ => trivial) ?_ ?_
      · rintro i v Hz Hy hi ⟨sz, eD⟩ ⟨rfl, c, hc, rfl⟩
        have hc2 : (TL.tl x)[i]? = some c := by rw [Array.getElem?_toList]; exact hc
        have lo : (odds ((TL.tl x).take i)).length ≤ 10 := by
          have a1 : (odds ((TL.tl x).take i)).length ≤ ((TL.tl x).take i).length := List.length_filter_le _ _
          have a2 := TL.len_tl x
          rw [List.length_take] at a1
          omega
        have st : odds ((TL.tl x).take (i + 1)) = odds ((TL.tl x).take i) ++ odds [c] := by
          unfold odds
          rw [List.take_add_one, hc2, Option.toList_some, List.filter_append]
        refine ⟨rfl, .str ⟨#[c]⟩, rfl, c, "0123456789", rfl, rfl, _, rfl, ?_⟩
        rw [in_digs]
        cases k : (decide (48 ≤ c) && decide (c ≤ 57)) with
        | true =>
          refine iteF ⟨sz, ?_⟩
          have e : odds [c] = [] := by unfold odds; simp [List.filter, k]
          rw [st, e, List.append_nil]
          exact eD
        | false =>
          refine iteT ⟨.str ⟨#[c]⟩, rfl, _, eD, ?_, same_again nD sz, ?_⟩
          · rw [List.length_map]; exact Nat.lt_of_le_of_lt lo (by decide)
          · have e : odds [c] = [c] := by unfold odds; simp [List.filter, k]
            rw [upd_same, st, e, List.map_append]
            rfl
      rintro H1 ⟨s1, eD⟩
      rw [List.take_of_length_le (show (TL.tl x).length ≤ x.cps.size by rw [← TL.len_tl]; exact Nat.le_refl _)] at eD
      refine ⟨Nat.zero_le _, fun z nz => ?_⟩
      have sz := same_new (o := .lst []) nz
      have hsh : ∀ c ∈ odds (TL.tl x), c < 128 := fun c hc => by
        have := (List.mem_filter.mp hc).1
        rw [hd] at this
        exact hasc c (rp_sub this)
      refine ⟨.list (dSg (odds (TL.tl x))), .list [], .lst (SqL.of (sz _ _ eD)) (dp_sg _), .lst (SqL.of upd_same) .nil, shaped_sg _ hsh, shaped_lst [], _, rfl, ?_⟩
      rw [ev_sg]
      have s2 := s1.trans sz
      generalize upd H1 z (.lst []) = H2 at s2 ⊢
      by_cases ho : odds (TL.tl x) = []
      rotate_left
      · rw [decide_eq_false ho]
        exact iteT (no (fun n hn => ho (odds_nil.mpr (by rw [hd]; exact (rdw_dig hn).2.2))) _ s2)
      rw [decide_eq_true ho]
      have ad := odds_nil.mp ho
      rw [hd] at ad
      have hx11 := (rp_len (x := x)).1
      rw [← hd] at hx11
      obtain ⟨n, hn, hb⟩ := read_dig ad (fun z => by rw [← hd] at z; have a := TL.len_tl x; rw [z] at a; have e0 : ([] : List Nat).length = 0 := rfl; omega) (by rw [← hd]; omega) (by omega)
      refine iteF ⟨.str x, rfl, x, n, rfl, hn, by omega, n, rfl, WN.ti_log hb, .str x, rfl, rfl, _, rfl, ?_⟩
      by_cases e : tI n = x
      rotate_left
      · rw [decide_eq_false (show ¬ V.str (Str.ofString (toString n)) = V.str x from fun z => e (V.str.inj z))]
        refine iteF (no (fun k hk => ?_) _ s2)
        obtain ⟨a1, a2⟩ := NY.rdw_back hk
        have := NX.read_int a2
        rw [← a1, hn] at this
        exact e (by rw [Option.some.inj this]; exact a1.symm)
      · rw [decide_eq_true (show V.str (Str.ofString (toString n)) = V.str x from congrArg V.str e)]
        refine iteT ⟨.str x, rfl, x, n, rfl, hn, by omega, n, rfl, 10, 9, rfl, rfl, ⟨by decide, by decide, by decide⟩, _, _, rfl, rfl, _, rfl, ?_⟩
        by_cases b : n.natAbs ≤ 1000000000
        · have b2 : (if n < 0 then -n else n) ≤ (10 : Int) ^ (9 : Int).toNat := by
            have e9 : (10 : Int) ^ (9 : Int).toNat = 1000000000 := by decide
            rw [e9]
            split <;> omega
          rw [decide_eq_true b2]
          refine iteT ⟨.str x, rfl, x, n, rfl, hn, by omega, ?_⟩
          have hq := hq _ s2
          rw [show rdw x = some n by rw [← e]; exact NX.rdw_int b] at hq
          exact hq
        · have b2 : ¬ (if n < 0 then -n else n) ≤ (10 : Int) ^ (9 : Int).toNat := by
            have e9 : (10 : Int) ^ (9 : Int).toNat = 1000000000 := by decide
            rw [e9]
            split <;> omega
          rw [decide_eq_false b2]
          refine iteF (no (fun k hk => ?_) _ s2)
          obtain ⟨a1, a2⟩ := NY.rdw_back hk
          have := NX.read_int a2
          rw [← a1, hn] at this
          exact b (by rw [Option.some.inj this]; exact a2)
def spDU : Sp := fun vs H Q _ => ∃ x : Str, vs = [.str x] ∧ x.length ≤ 20000 ∧ Asc x ∧ ∀ H', Same H H' → Q (tld x) H'
theorem ok_DU {f : Addr} {fd : FuncData} {fLN : Addr} {dLN : FuncData} {k : Nat} (F : Fun K "_law_due" "_law_due" sDU f fd) (GLN : FnOk P w K mg base CX0 (k + 1) fLN dLN ["word"] spLN) (gLN : mg "_law_number" = some (.ref fLN)) (kLN : PySem.W.keepIn K (.ref fLN) = true) (bLN : Binds K dLN ["word"] []) (mlen : mg "len" = none) (me : mg "enumerate" = none) : FnOk P w K mg base CX0 (k + 2) f fd ["text"] spDU := by
  refine F.ok scDU (fun vs H Q E h => ?_) (fun cdv A outer s H vs Q E hr h => ?_)
  · obtain ⟨x, rfl, _⟩ := h
    rfl
  · obtain ⟨x, rfl, hl, hasc, hq⟩ := h
    refine ⟨_, (pss_cons (ps_for PassesOwn.never rfl (GE.pi_enumS (by rfl) me (pa_cons (pe_ifExp (pt_cmpR op_ne (pv 0) pe_str (nomark _)) (pe_split (pv 0) pe_str) (pe_lst pa_nil)) pa_nil)) (pg_tup rfl (pgs_cons (pg_name (i := 1) scDU.nd rfl (.inl rfl)) (pgs_cons (pg_name (i := 2) scDU.nd rfl (.inl rfl)) pgs_nil)))
      (pss_cons (ps_setLc (i := 3) (own := [("word", 4)]) (g := gName 4) (tt := tYes) (te := tCall spLN [] E0 (tCons (tVar 4) tNil)) rfl scDU.nd rfl rfl (sw_true rfl rfl rfl (by decide +kernel)) (pi_list (pe_split (pv 2) pe_str)) (blkOk_by (own := [("word", 4)]) (N := ["text", "number", "row", "values", "word"]) (sc := defScope sDU) (by decide +kernel)) (fun _ _ _ _ _ => (pg_name (i := 4) scDU.nd rfl (Or.inl rfl) (Or.inr rfl))) (fun _ _ _ _ _ => pts_nil) (fun _ _ _ _ _ => (pe_call GLN hr (by rfl) gLN kLN bLN .nil pass0 (pa_cons (pv 4) pa_nil))))
      (pss_cons (ps_if (PW.pt (pw_or (pt_cmpR op_ne (pe_callB call_len_seq (by rfl) mlen PySem.boot_len (pa_cons (pv 3) pa_nil)) pe_int (nomark _)) (pw_or1 (pt_cmpR op_in_seq pe_non (pv 3) (by rfl))))) (pss_one (ps_ret (pv 1))) pss_nil)
      (pss_one (ps_if (PW.pt (pw_or (pt_cmpR op_ge (pe_ix ix_list (pv 3) pe_int (fun _ _ => rfl)) (pe_ix ix_list (pv 3) pe_int (fun _ _ => rfl)) (nomark _)) (pw_or1 (pt_not (pt_chain op_le op_le pe_int (pe_ix ix_list (pv 3) pe_int (fun _ _ => rfl)) (pe_op op_pow pe_int pe_int)))))) (pss_one (ps_ret (pv 1))) pss_nil)))))
      (pss_one (ps_ret (pv 0)))), ?_⟩
    have hn : ("\n" : Str).cps.all (· < 256) = true := by decide +kernel
    have hb : (" " : Str).cps.all (· < 256) = true := by decide +kernel
    refine ⟨.str x, rfl, rfl, _, rfl, ?_⟩
    by_cases hx : x = ""
    · rw [decide_eq_true (show V.str x = V.str "" from congrArg V.str hx)]
      refine iteF ⟨Nat.zero_le _, fun S nS => ?_⟩
      have hrs : rows x = [] := by unfold NY.rows; rw [if_pos hx]
      obtain ⟨rs, ers⟩ : ∃ rs : List Str, rs = [] := ⟨_, rfl⟩
      rw [← ers] at hrs
      have lc : rs.length ≤ 20001 := by rw [ers]; exact Nat.zero_le _
      have lp : ∀ p ∈ rs, p.length ≤ x.length := fun p hp => by rw [ers] at hp; exact absurd hp (by simp)
      have asc : ∀ p ∈ rs, Asc p := fun p hp => by rw [ers] at hp; exact absurd hp (by simp)
      have sS := same_new (o := .lst []) nS
      have eS : (upd H S (.lst [])) S = some (.lst (rs.map V.str)) := by rw [ers]; exact upd_same
      generalize upd H S (.lst []) = H0 at sS eS ⊢
      refine ⟨S, rs.map V.str, rfl, .inl (SqL.of eS), fun J G wk hG => for_it wk (fun i σ Hz => Same H0 Hz ∧ (∀ m, m < i → (ents x)[m]? ≠ some none) ∧ ∃ r1 r2 r3 r4 : Option V, σ = [some (.str x), r1, r2, r3, r4]) ⟨Same.refl _, fun m h => absurd h (Nat.not_lt_zero m), _, _, _, _, rfl⟩ (fun i σ Hz _ z => hG _ z.1) ?_ ?_⟩
      · rintro i w σ Hz Hy hi ⟨sz, hall, r1, r2, r3, r4, rfl⟩ ⟨T, a, y, rfl, nT, rfl, hx2, hy⟩
        obtain rfl : V.int (i : Int) = a := Option.some.inj hx2
        have hy2 : (rs.map V.str)[i]? = some y := hy
        obtain ⟨r, hr, rfl⟩ := strs_at hy2
        have mr := List.mem_of_getElem? hr
        have hei : (ents x)[i]? = some (entw (Txt.split r " ")) := by unfold NY.ents; rw [hrs, List.getElem?_map, hr]; rfl
        have sT := same_new nT (o := .tup [.int (i : Int), .str r])
        have s0T := sz.trans sT
        have lr := lp r mr
        have lw := NY.split_count NX.blk hb r
        have lq := NY.split_part NX.blk hb r
        have aw := split_asc NX.blk hb (asc r mr)
        refine ⟨T, _, rfl, SqT.of upd_same, rfl, .int (i : Int), [.str r], rfl, .str r, [], rfl, rfl, ?_⟩
        generalize upd Hz T (.tup [.int (i : Int), .str r]) = HT at s0T ⊢
        refine ⟨.str r, rfl, ⟨_, rfl⟩, r, " ", rfl, rfl, by decide +kernel, Nat.le_trans (Nat.add_le_add_right (Nat.le_trans lr hl) 2) (by decide), fun W nW => ?_⟩
        generalize Txt.split r " " = ws at hei lw lq aw ⊢
        have sW := same_new (o := .lst (ws.map V.str)) nW
        have eW := upd_same (H := HT) (a := W) (o := .lst (ws.map V.str))
        generalize upd HT W (.lst (ws.map V.str)) = H2 at sW eW ⊢
        refine ⟨W, rfl, ⟨_, SqL.of eW⟩, fun D nD => ?_⟩
        refine lc_list (K := K) (a := W) (xs := ws.map V.str) (fun i Hz => Same H2 Hz ∧ Hz D = some (.lst (((ws.take i).map rdw).map optV))) ⟨same_new nD, upd_same⟩ (fun i Hz _ z => SqL.of (z.1 _ _ eW)) ?_ ?_
        · rintro j y Hw hy ⟨sw, eD⟩
          obtain ⟨u, hu, rfl⟩ := strs_at hy
          have mu := List.mem_of_getElem? hu
          have lu := lq u mu
          refine ⟨rfl, iteT (B := True) ⟨.str u, rfl, u, rfl, by omega, aw u mu, fun H' s => ⟨_, s _ _ eD, ?_, same_again nD (sw.trans s), ?_⟩⟩⟩
          · rw [List.length_map, List.length_map, List.length_take]; exact Nat.lt_of_le_of_lt (show _ ≤ 30000 by omega) (by decide)
          · rw [upd_same, List.take_add_one, hu, List.map_append, List.map_append]; rfl
        rintro H3 ⟨s3, eD⟩
        rw [List.length_map, List.take_length] at eD
        have sAll := sS.trans (s0T.trans (sW.trans s3))
        have s0A := s0T.trans (sW.trans s3)
        have bad : entw ws = none → Q (.int (i : Int)) H3 := fun h => by
          have hq := hq H3 sAll
          rw [tld_bad (j := i) (by rw [hei, h]) hall] at hq
          exact hq
        have good : entw ws ≠ none → ∀ m, m < i + 1 → (ents x)[m]? ≠ some none := fun h m hm => by
          by_cases k : m < i
          · exact hall m k
          · rw [show m = i by omega, hei]
            intro z
            exact h (Option.some.inj z)
        unfold entw at bad good
        generalize ws.map rdw = os at bad good eD
        refine ⟨.ref D, rfl, D, _, rfl, .inl (SqL.of eD), rfl, _, rfl, ?_⟩
        have el : V.int ((os.map optV).length : Int) = V.int 3 ↔ os.length = 3 := by
          rw [List.length_map]
          constructor
          · intro z; have := V.int.inj z; omega
          · intro z; rw [z]; rfl
        by_cases l3 : os.length = 3
        · rw [decide_eq_true (el.mpr l3)]
          refine iteF ⟨.ref D, rfl, D, _, rfl, .inl (SqL.of eD), rfl, opt_flat _, _, rfl, ?_⟩
          rw [opt_in]
          match os, l3 with
          | [none, _, _], _ => exact iteT ⟨_, rfl, bad rfl⟩
          | [some _, none, _], _ => exact iteT ⟨_, rfl, bad rfl⟩
          | [some _, some _, none], _ => exact iteT ⟨_, rfl, bad rfl⟩
          | [some a, some b, some c], _ =>
            have no : okE a b c = false → Q (.int (i : Int)) H3 := fun z => bad (by show (if okE a b c = true then some (a, b, c) else none) = none; rw [z]; rfl)
            refine iteF ⟨.ref D, rfl, D, _, 0, .int a, rfl, rfl, SqL.of eD, at_of (j := 0) rfl rfl, .ref D, rfl, D, _, 1, .int b, rfl, rfl, SqL.of eD, at_of (j := 1) rfl rfl, a, b, rfl, rfl, _, rfl, ?_⟩
            by_cases c1 : b ≤ a
            · rw [decide_eq_true c1]
              exact iteT ⟨_, rfl, no (by unfold okE; rw [decide_eq_true c1]; rfl)⟩
            rw [decide_eq_false c1]
            refine iteF ⟨.ref D, rfl, D, _, 2, .int c, rfl, rfl, SqL.of eD, at_of (j := 2) rfl rfl, 0, c, rfl, rfl, _, rfl, ?_⟩
            by_cases c2 : (0 : Int) ≤ c
            rotate_left
            · rw [decide_eq_false c2]
              exact iteF ⟨_, rfl, iteT ⟨_, rfl, no (by unfold okE; rw [decide_eq_false c1, decide_eq_true (show c < 0 by omega)]; rfl)⟩⟩
            rw [decide_eq_true c2]
            refine iteT ⟨10, 6, rfl, rfl, ⟨by decide, by decide, by decide⟩, c, _, rfl, rfl, _, rfl, ?_⟩
            by_cases c3 : c ≤ (10 : Int) ^ (6 : Int).toNat
            · rw [decide_eq_true c3]
              have c4 : c ≤ 1000000 := c3
              refine iteF ⟨s0A, good ?_, _, _, _, _, rfl⟩
              show (if okE a b c = true then some (a, b, c) else none) ≠ none
              have e : okE a b c = true := by unfold okE; rw [decide_eq_false c1, decide_eq_false (show ¬ c < 0 by omega), decide_eq_false (show ¬ 1000000 < c by omega)]; rfl
              rw [e]
              exact fun z => by cases z
            · rw [decide_eq_false c3]
              have c4 : ¬ c ≤ 1000000 := c3
              exact iteT ⟨_, rfl, no (by unfold okE; rw [decide_eq_false c1, decide_eq_false (show ¬ c < 0 by omega), decide_eq_true (show 1000000 < c by omega)]; rfl)⟩
        · rw [decide_eq_false (fun z => l3 (el.mp z))]
          refine iteT ⟨_, rfl, bad ?_⟩
          split <;> first | rfl | exact absurd rfl l3
      · rintro σ Hz ⟨sz, hall, r1, r2, r3, r4, rfl⟩
        have hq := hq Hz (sS.trans sz)
        rw [tld_ok (fst0_all fun m hm => hall m (by unfold NY.ents at hm; rw [hrs, List.length_map] at hm; rw [List.length_map]; exact hm))] at hq
        exact ⟨_, rfl, hq⟩
    · rw [decide_eq_false (show ¬ V.str x = V.str "" from fun z => hx (V.str.inj z))]
      have hrs : rows x = Txt.split x "\n" := by unfold NY.rows; rw [if_neg hx]
      have lc := NY.split_count NX.nlk hn x
      have lp := NY.split_part NX.nlk hn x
      have asc := split_asc NX.nlk hn hasc
      refine iteT ⟨.str x, rfl, ⟨_, rfl⟩, x, "\n", rfl, rfl, by decide +kernel, Nat.le_trans (Nat.add_le_add_right hl 2) (by decide), fun S nS => ?_⟩
      generalize Txt.split x "\n" = rs at hrs lc lp asc ⊢
      have sS := same_new (o := .lst (rs.map V.str)) nS
      have eS := upd_same (H := H) (a := S) (o := .lst (rs.map V.str))
      generalize upd H S (.lst (rs.map V.str)) = H0 at sS eS ⊢
      refine ⟨S, rs.map V.str, rfl, .inl (SqL.of eS), fun J G wk hG => for_it wk (fun i σ Hz => Same H0 Hz ∧ (∀ m, m < i → (ents x)[m]? ≠ some none) ∧ ∃ r1 r2 r3 r4 : Option V, σ = [some (.str x), r1, r2, r3, r4]) ⟨Same.refl _, fun m h => absurd h (Nat.not_lt_zero m), _, _, _, _, rfl⟩ (fun i σ Hz _ z => hG _ z.1) ?_ ?_⟩
      · rintro i w σ Hz Hy hi ⟨sz, hall, r1, r2, r3, r4, rfl⟩ ⟨T, a, y, rfl, nT, rfl, hx2, hy⟩
        obtain rfl : V.int (i : Int) = a := Option.some.inj hx2
        have hy2 : (rs.map V.str)[i]? = some y := hy
        obtain ⟨r, hr, rfl⟩ := strs_at hy2
        have mr := List.mem_of_getElem? hr
        have hei : (ents x)[i]? = some (entw (Txt.split r " ")) := by unfold NY.ents; rw [hrs, List.getElem?_map, hr]; rfl
        have sT := same_new nT (o := .tup [.int (i : Int), .str r])
        have s0T := sz.trans sT
        have lr := lp r mr
        have lw := NY.split_count NX.blk hb r
        have lq := NY.split_part NX.blk hb r
        have aw := split_asc NX.blk hb (asc r mr)
        refine ⟨T, _, rfl, SqT.of upd_same, rfl, .int (i : Int), [.str r], rfl, .str r, [], rfl, rfl, ?_⟩
        generalize upd Hz T (.tup [.int (i : Int), .str r]) = HT at s0T ⊢
        refine ⟨.str r, rfl, ⟨_, rfl⟩, r, " ", rfl, rfl, by decide +kernel, Nat.le_trans (Nat.add_le_add_right (Nat.le_trans lr hl) 2) (by decide), fun W nW => ?_⟩
        generalize Txt.split r " " = ws at hei lw lq aw ⊢
        have sW := same_new (o := .lst (ws.map V.str)) nW
        have eW := upd_same (H := HT) (a := W) (o := .lst (ws.map V.str))
        generalize upd HT W (.lst (ws.map V.str)) = H2 at sW eW ⊢
        refine ⟨W, rfl, ⟨_, SqL.of eW⟩, fun D nD => ?_⟩
        refine lc_list (K := K) (a := W) (xs := ws.map V.str) (fun i Hz => Same H2 Hz ∧ Hz D = some (.lst (((ws.take i).map rdw).map optV))) ⟨same_new nD, upd_same⟩ (fun i Hz _ z => SqL.of (z.1 _ _ eW)) ?_ ?_
        · rintro j y Hw hy ⟨sw, eD⟩
          obtain ⟨u, hu, rfl⟩ := strs_at hy
          have mu := List.mem_of_getElem? hu
          have lu := lq u mu
          refine ⟨rfl, iteT (B := True) ⟨.str u, rfl, u, rfl, by omega, aw u mu, fun H' s => ⟨_, s _ _ eD, ?_, same_again nD (sw.trans s), ?_⟩⟩⟩
          · rw [List.length_map, List.length_map, List.length_take]; exact Nat.lt_of_le_of_lt (show _ ≤ 30000 by omega) (by decide)
          · rw [upd_same, List.take_add_one, hu, List.map_append, List.map_append]; rfl
        rintro H3 ⟨s3, eD⟩
        rw [List.length_map, List.take_length] at eD
        have sAll := sS.trans (s0T.trans (sW.trans s3))
        have s0A := s0T.trans (sW.trans s3)
        have bad : entw ws = none → Q (.int (i : Int)) H3 := fun h => by
          have hq := hq H3 sAll
          rw [tld_bad (j := i) (by rw [hei, h]) hall] at hq
          exact hq
        have good : entw ws ≠ none → ∀ m, m < i + 1 → (ents x)[m]? ≠ some none := fun h m hm => by
          by_cases k : m < i
          · exact hall m k
          · rw [show m = i by omega, hei]
            intro z
            exact h (Option.some.inj z)
        unfold entw at bad good
        generalize ws.map rdw = os at bad good eD
        refine ⟨.ref D, rfl, D, _, rfl, .inl (SqL.of eD), rfl, _, rfl, ?_⟩
        have el : V.int ((os.map optV).length : Int) = V.int 3 ↔ os.length = 3 := by
          rw [List.length_map]
          constructor
          · intro z; have := V.int.inj z; omega
          · intro z; rw [z]; rfl
        by_cases l3 : os.length = 3
        · rw [decide_eq_true (el.mpr l3)]
          refine iteF ⟨.ref D, rfl, D, _, rfl, .inl (SqL.of eD), rfl, opt_flat _, _, rfl, ?_⟩
          rw [opt_in]
          match os, l3 with
          | [none, _, _], _ => exact iteT ⟨_, rfl, bad rfl⟩
          | [some _, none, _], _ => exact iteT ⟨_, rfl, bad rfl⟩
          | [some _, some _, none], _ => exact iteT ⟨_, rfl, bad rfl⟩
          | [some a, some b, some c], _ =>
            have no : okE a b c = false → Q (.int (i : Int)) H3 := fun z => bad (by show (if okE a b c = true then some (a, b, c) else none) = none; rw [z]; rfl)
            refine iteF ⟨.ref D, rfl, D, _, 0, .int a, rfl, rfl, SqL.of eD, at_of (j := 0) rfl rfl, .ref D, rfl, D, _, 1, .int b, rfl, rfl, SqL.of eD, at_of (j := 1) rfl rfl, a, b, rfl, rfl, _, rfl, ?_⟩
            by_cases c1 : b ≤ a
            · rw [decide_eq_true c1]
              exact iteT ⟨_, rfl, no (by unfold okE; rw [decide_eq_true c1]; rfl)⟩
            rw [decide_eq_false c1]
            refine iteF ⟨.ref D, rfl, D, _, 2, .int c, rfl, rfl, SqL.of eD, at_of (j := 2) rfl rfl, 0, c, rfl, rfl, _, rfl, ?_⟩
            by_cases c2 : (0 : Int) ≤ c
            rotate_left
            · rw [decide_eq_false c2]
              exact iteF ⟨_, rfl, iteT ⟨_, rfl, no (by unfold okE; rw [decide_eq_false c1, decide_eq_true (show c < 0 by omega)]; rfl)⟩⟩
            rw [decide_eq_true c2]
            refine iteT ⟨10, 6, rfl, rfl, ⟨by decide, by decide, by decide⟩, c, _, rfl, rfl, _, rfl, ?_⟩
            by_cases c3 : c ≤ (10 : Int) ^ (6 : Int).toNat
            · rw [decide_eq_true c3]
              have c4 : c ≤ 1000000 := c3
              refine iteF ⟨s0A, good ?_, _, _, _, _, rfl⟩
              show (if okE a b c = true then some (a, b, c) else none) ≠ none
              have e : okE a b c = true := by unfold okE; rw [decide_eq_false c1, decide_eq_false (show ¬ c < 0 by omega), decide_eq_false (show ¬ 1000000 < c by omega)]; rfl
              rw [e]
              exact fun z => by cases z
            · rw [decide_eq_false c3]
              have c4 : ¬ c ≤ 1000000 := c3
              exact iteT ⟨_, rfl, no (by unfold okE; rw [decide_eq_false c1, decide_eq_false (show ¬ c < 0 by omega), decide_eq_true (show 1000000 < c by omega)]; rfl)⟩
        · rw [decide_eq_false (fun z => l3 (el.mp z))]
          refine iteT ⟨_, rfl, bad ?_⟩
          split <;> first | rfl | exact absurd rfl l3
      · rintro σ Hz ⟨sz, hall, r1, r2, r3, r4, rfl⟩
        have hq := hq Hz (sS.trans sz)
        rw [tld_ok (fst0_all fun m hm => hall m (by unfold NY.ents at hm; rw [hrs, List.length_map] at hm; rw [List.length_map]; exact hm))] at hq
        exact ⟨_, rfl, hq⟩
def spTO : Sp := fun vs H Q _ => ∃ x : Str, vs = [.str x] ∧ x.length ≤ 20000 ∧ ∀ H', Same H H' → Q (tld x) H'
theorem ok_TO {f : Addr} {fd : FuncData} {C CE CW pP fPA fUS : Addr} {dPA dUS : FuncData} {k : Nat} (F : Fun K "_law_told" "_law_told" sTO f fd) (gT : mg "Table" = some (.ref C)) (ins : C8.InsC K C) (rd : ClX.CRead K C (.type "type")) (cm : ClX.CMet K C (.type "type") "parse" pP fPA) (GPE : FnOk P w K mg base (CX P w) (k + 7) fPA dPA ["cls", "text"] (spPE C CE)) (bPA : Binds K dPA ["cls", "text"] [])
  (fnUS : PySem.W.findIn K (.ref C) "__str__" = some (some (.ref fUS))) (iUS : PySem.W.isFn K (.ref fUS) = true) (GUS : FnOk P w K mg base CX0 (k + 1) fUS dUS ["self"] (H8T.spTS C)) (bUS : Binds K dUS ["self"] [])
  (gE : mg "InvalidText" = some (.ref CE)) (gW : mg "WearError" = some (.ref CW)) (exm : PySem.W.exmOne K (.ref CE) (.ref CW) = some true) (xf : XS.XfA K "row" CE) (ec : ExcC K CE) (kv : PySem.W.kitOne K (.ref CE) (.type "ValueError") = some true) (mis : mg "isinstance" = none) (mst : mg "str" = none) (mve : mg "ValueError" = none) : FnOk P w K mg base CX0 (k + 8) f fd ["text"] spTO := by
  refine F.ok scTO (fun vs H Q E h => ?_) (fun cdv A outer s H vs Q E hr h => ?_)
  · obtain ⟨x, rfl, _⟩ := h
    rfl
  · obtain ⟨x, rfl, hl, hq⟩ := h
    refine ⟨_, (pss_cons (ps_asg (pe_tup (pa_cons pe_non (pa_cons pe_non pa_nil))) (pg_tup rfl (pgs_cons (pg_name (i := 1) scTO.nd rfl (.inl rfl)) (pgs_cons (pg_name (i := 2) scTO.nd rfl (.inl rfl)) pgs_nil))))
      (pss_cons (XS.ps_try_keep (i := 3) (tb := fun W => tAsg (GCM.tCMethS C (fun vs H Q E => spPE C CE (vs ++ []) H Q E) (WE W) (tC (.ref C)) (tCons (tVar 0) tNil)) (gName 2)) (ts := fun a cls d => tAsg (tVar 3) (gName 1)) (Wout := fun _ _ _ _ => False) rfl rfl rfl scTO.nd rfl rfl ⟨rfl, by decide, Or.inl gW⟩ takes0
        (fun W pn xe tk _ => pss_one (ps_set (i := 2) scTO.nd rfl (Or.inl rfl) (by exact (GCM.pe_cmethS (pe_glob (v := .ref C) (by rfl) gT rfl) rd cm (GPE.raw bPA .nil) hr (fun σ => passAt tk σ) (by exact (pa_cons (pv 0) pa_nil))))))
        (fun a oe cls d pn hz hf => pss_one (ps_set (i := 1) scTO.nd rfl (Or.inl rfl) (by exact (pv 3)))))
      (pss_cons (ps_if (pt_cmpR op_isN (pv 1) pe_non (nomark _)) (pss_one (ps_ret (pe_ifExp (pt_val (pe_callB (C8.call_isC ins) (by rfl) mis (by decide +kernel) (pa_cons (pv 2) (pa_cons (pe_glob (v := .ref C) (by rfl) gT rfl) pa_nil)))) (pe_callTy (GS.cr_strOwn (GUS.mono (show k + 1 ≤ k + 5 by omega)) hr fnUS iUS bUS pass0) (by rfl) mst (by decide +kernel) (pa_cons (pv 2) pa_nil)) pe_str))) pss_nil)
      (pss_one (ps_ret (pe_ifExp (PW.pt (pw_and (pt_val (pe_callB XS.call_isK (by rfl) mis (by decide +kernel) (pa_cons (pv 1) (pa_cons (pe_glob (v := .ref CE) (by rfl) gE rfl) pa_nil)))) (pw_and1 (pt_val (pe_callB XS.call_isK (by rfl) mis (by decide +kernel) (pa_cons (pv 1) (pa_cons (pe_bltn (v := .ty "ValueError") (by rfl) mve (by decide +kernel) rfl) pa_nil))))))) (XS.pe_xk (pv 1)) pe_str)))))), ?_⟩
    refine ⟨by show 2 ≤ sizeLine; decide, fun t nt => ⟨t, _, rfl, SqT.of upd_same, rfl, .non, [.non], rfl, .non, [], rfl, rfl, ?_⟩⟩
    have s0 := same_new (o := .tup [V.non, V.non]) nt
    generalize upd H t (.tup [V.non, V.non]) = H0 at s0 ⊢
    refine ⟨rfl, .str x, rfl, x, rfl, hl, fun es hes H1 t1 s1 tab => ?_, fun j hj hm H1 dx s1 ndx => ⟨true, exm, fun _ ae nae => ?_, fun q => nomatch q⟩⟩
    · obtain ⟨ex, va⟩ := NY.ents_back hes
      have les : es.length ≤ 20001 := by
        have := ents_len x
        rw [hes, List.length_map] at this
        omega
      obtain ⟨dt, tt, tys, ht, _⟩ := id tab
      refine ⟨.non, rfl, rfl, true, rfl, iteT ⟨.ref t1, rfl, t1, dt, _, rfl, ht, _, rfl, iteT ⟨.ref t1, rfl, t1, dt, _, rfl, ht, t1, es, rfl, tab, by omega, vsml va, fun H2 s2 => ⟨_, rfl, ?_⟩⟩⟩⟩
      have hq := hq H2 (s0.trans (s1.trans s2))
      rw [tld_ok (by rw [hes]; exact fst0_map es)] at hq
      rw [H8T.ttx_txt, ← ex]
      exact hq
    · have s2 := same_new (o := .xd [(("row" : Str), .int (j : Int))]) ndx
      have hdx := upd_same (H := H1) (a := dx) (o := .xd [(("row" : Str), .int (j : Int))])
      generalize upd H1 dx (.xd [(("row" : Str), .int (j : Int))]) = H2 at nae s2 hdx ⊢
      have s3 := same_new (o := XS.exk ae (.ref CE) (some dx)) nae
      have hae := upd_same (H := H2) (a := ae) (o := XS.exk ae (.ref CE) (some dx))
      refine ⟨.ref ae, rfl, ?_⟩
      have hdx3 := s3 _ _ hdx
      refine ⟨.ref ae, rfl, rfl, false, rfl, iteF ?_⟩
      refine ⟨.ref ae, rfl, ae, CE, dx, _, .ref CE, .ref CE, true, rfl, ec, hae, hdx3, fun u ru => ru, if_pos (beq_self_eq_true _), true, rfl, iteT ?_⟩
      refine ⟨.ref ae, rfl, ae, CE, dx, _, .ty "ValueError", .type "ValueError", true, rfl, ec, hae, hdx3, fun u ru => ru, kv, true, rfl, iteT ?_⟩
      refine ⟨.ref ae, rfl, ae, CE, dx, _, .int (j : Int), rfl, xf, hae, hdx3, rfl, ?_⟩
      have hq := hq _ (s0.trans (s1.trans (s2.trans s3)))
      rw [tld_bad hj hm] at hq
      exact hq
end
end X5R

set_option pp.maxSteps 900
/-! k51: a text changed -/
namespace X5C
open PySem PySem.Spec PyProof.Rows L2 KA KD PH PM RM K52b XU Z5K X5R
abbrev sCH : Stmt := topS 25
theorem scCH : FnScope ["feed", "text", "sep", "some", "at", "other", "turn", "odd", "place"] ["feed", "text"] (defScope sCH) := ⟨rfl, rfl, rfl, by decide +kernel, rfl, by decide +kernel, by decide +kernel⟩
def jl (vs : List Str) : Nat := (vs.map (·.length)).sum + vs.length
theorem jl_cons (v : Str) (vs : List Str) : jl (v :: vs) = v.length + 1 + jl vs := by
  unfold jl
  rw [List.map_cons, List.sum_cons, List.length_cons]
  omega
theorem jl_app (us vs : List Str) : jl (us ++ vs) = jl us + jl vs := by
  unfold jl
  rw [List.map_append, List.sum_append, List.length_append]
  omega
theorem join_jl {y : Str} (hy : y.length = 1) : ∀ {vs : List Str}, vs ≠ [] → (Str.join y vs).length + 1 = jl vs
  | [], h => absurd rfl h
  | [v], _ => by rw [jl_cons]; show v.length + 1 = v.length + 1 + 0; omega
  | v :: u :: vs, _ => by
    have ih := join_jl hy (vs := u :: vs) (by simp)
    rw [jl_cons, ← ih]
    show (v ++ y ++ Str.join y (u :: vs)).length + 1 = _
    rw [WN.len_app, WN.len_app, hy]
    omega
theorem tjoin_jl {y : Str} (hy : y.length = 1) (vs : List Str) : (Txt.join y vs).length ≤ jl vs := by
  rw [TL.join_eq]
  cases vs with
  | nil => exact Nat.zero_le _
  | cons v vs => have := join_jl hy (vs := v :: vs) (by simp); omega
theorem jl_mem {vs : List Str} {u : Str} (h : u ∈ vs) : u.length + 1 ≤ jl vs := by
  obtain ⟨a, b, rfl⟩ := List.append_of_mem h
  rw [jl_app, jl_cons]
  omega
theorem jl_erase : ∀ (vs : List Str) (k : Nat), jl (vs.eraseIdx k) ≤ jl vs
  | [], _ => Nat.le_refl _
  | v :: vs, 0 => by show jl vs ≤ _; rw [jl_cons]; omega
  | v :: vs, k + 1 => by
    have := jl_erase vs k
    show jl (v :: vs.eraseIdx k) ≤ _
    rw [jl_cons, jl_cons]; omega
theorem jl_ins (vs : List Str) (i : Nat) (u : Str) : jl (vs.take i ++ [u] ++ vs.drop i) = jl vs + (u.length + 1) := by
  have e : jl vs = jl (vs.take i) + jl (vs.drop i) := by rw [← jl_app, List.take_append_drop]
  rw [jl_app, jl_app, e, jl_cons]
  show _ + (_ + 1 + 0) + _ = _
  omega
theorem jl_set : ∀ (vs : List Str) (k : Nat) (u : Str), jl (vs.set k u) ≤ jl vs + u.length
  | [], _, _ => Nat.le_add_right _ _
  | v :: vs, 0, u => by show jl (u :: vs) ≤ _; rw [jl_cons, jl_cons]; omega
  | v :: vs, k + 1, u => by
    have := jl_set vs k u
    show jl (v :: vs.set k u) ≤ _
    rw [jl_cons, jl_cons]; omega
theorem asc_join {y : Str} {vs : List Str} (h : Asc y) (g : ∀ u ∈ vs, Asc u) : Asc (Txt.join y vs) := fun c hc => by
  rw [TL.join_eq, TL.tl_join] at hc
  rcases NX.mem_joinL hc with k | ⟨p, hp, k⟩
  · exact h c k
  · obtain ⟨u, hu, rfl⟩ := List.mem_map.mp hp
    exact g u hu c k
theorem asc_app {x y : Str} (h : Asc x) (g : Asc y) : Asc (x ++ y) := fun c hc => by
  rw [TL.tl_append] at hc
  exact (List.mem_append.mp hc).elim (h c) (g c)
theorem asc_cut {x : Str} (h : Asc x) (lo hi : Option Int) : Asc (cutS x lo hi) := fun c hc => h c (by
  have h2 : c ∈ (x.cps.toList.drop (HT.sIx x.length 0 lo)).take (HT.sIx x.length x.length hi - HT.sIx x.length 0 lo) := hc
  exact List.mem_of_mem_drop (List.mem_of_mem_take h2))
def ODD : List Str := ["", "0", "-1", "1 1 1", "0 1 0", "0 1 1000001", "0 1 -1", "01", "-0", "+1", "x", "1000000001", "0 1", "5 2 1", "1_0", "0 1_0 1"]
theorem odd_ok : ∀ u ∈ ODD, u.length ≤ 12 ∧ Asc u := by
  have : (ODD.all fun u => decide (u.length ≤ 12) && u.cps.all (· < 128)) = true := by decide +kernel
  intro u hu
  have h := List.all_eq_true.mp this u hu
  rw [Bool.and_eq_true, decide_eq_true_eq] at h
  refine ⟨h.1, fun c hc => ?_⟩
  have h2 := h.2
  rw [← Array.all_toList, List.all_eq_true] at h2
  exact of_decide_eq_true (h2 c hc)
theorem erase_map {α β : Type} (g : α → β) : ∀ (l : List α) (k : Nat), (l.map g).eraseIdx k = (l.eraseIdx k).map g
  | [], _ => rfl
  | _ :: _, 0 => rfl
  | a :: l, k + 1 => congrArg (g a :: ·) (erase_map g l k)
theorem pk_asc : Asc (" \n-0139x.:_" : Str) := fun c hc => by
  have : ((" \n-0139x.:_" : Str).cps.all (· < 128)) = true := by decide +kernel
  rw [← Array.all_toList, List.all_eq_true] at this
  exact of_decide_eq_true (this c hc)
theorem len_one (c : Nat) : ((⟨#[c]⟩ : Str)).length = 1 := rfl
section
variable {P : Program} {w : World} {K : PySem.W.Frag} {mg : Str → Option Value} {base : Heap}
def spPickS : Sp := fun vs H Q _ => ∃ (f : Addr) (z : Str), vs = [.ref f, .str z] ∧ 0 < z.length ∧ z.length ≤ 1000 ∧ FeedAt H f ∧ ∀ H' c, c ∈ TL.tl z → Ch f H H' → FeedAt H' f → Q (.str ⟨#[c]⟩) H'
theorem ok_pickS {f fT : Addr} {fd fdT : FuncData} {k : Nat} (F : Fun K "_law_pick" "_law_pick" sPick f fd) (FT : Fun K "_law_take" "_law_take" sTake fT fdT) (gT : mg "_law_take" = some (.ref fT)) (bT : Binds K fdT ["feed", "many"] []) (ml : mg "len" = none) :
    FnOk P w K mg base CX0 (k + 2) f fd ["feed", "some"] spPickS := by
  have GT : FnOk P w K mg base CX0 (k + 1) fT fdT ["feed", "many"] spTake := ok_take FT
  refine F.ok scPick (fun vs H Q E h => ?_) (fun cdv A outer s H vs Q E hr h => ?_)
  · obtain ⟨a, z, rfl, _⟩ := h
    rfl
  · obtain ⟨f, z, rfl, l0, l1, hf, q⟩ := h
    refine ⟨_, pss_one (ps_ret (pe_ix ix_str (pv 1) (pe_call GT hr (by rfl) gT FT.kp bT .nil pass0 (pa_cons (pv 0) (pa_cons (pe_callB call_len_str (by rfl) ml PySem.boot_len (pa_cons (pv 1) pa_nil)) pa_nil))) (fun _ _ => rfl))), ?_⟩
    have hz : z.length ≤ sizeLine := Nat.le_trans l1 (by decide)
    refine ⟨.str z, rfl, .ref f, rfl, .str z, rfl, z, rfl, hz, f, _, rfl, by omega, by omega, hf, fun H' r ch fe r0 r1 => ?_⟩
    obtain ⟨j, rfl⟩ : ∃ j : Nat, r = (j : Int) := ⟨r.toNat, by omega⟩
    have hj : j < z.cps.toList.length := by have := TL.len_tl z; show j < (TL.tl z).length; omega
    exact ⟨z, _, z.cps.toList[j], rfl, rfl, hz, atI_nat (List.getElem?_eq_getElem hj), q H' _ (List.getElem_mem hj) ch fe⟩
def spCH : Sp := fun vs H Q _ => ∃ (f : Addr) (x : Str), vs = [.ref f, .str x] ∧ FeedAt H f ∧ x.length ≤ 4000 ∧ Asc x ∧ ∀ H' y, Ch f H H' → FeedAt H' f → y.length ≤ 3 * x.length + 60 → Asc y → Q (.str y) H'
theorem ok_CH {f : Addr} {fd : FuncData} {fTA : Addr} {dTA : FuncData} {fPI : Addr} {dPI : FuncData} {k : Nat} (F : Fun K "_law_changed" "_law_changed" sCH f fd) (GTA : FnOk P w K mg base CX0 (k + 1) fTA dTA ["feed", "many"] spTake) (gTA : mg "_law_take" = some (.ref fTA)) (kTA : PySem.W.keepIn K (.ref fTA) = true) (bTA : Binds K dTA ["feed", "many"] []) (GPI : FnOk P w K mg base CX0 (k + 2) fPI dPI ["feed", "some"] (spPick K)) (gPI : mg "_law_pick" = some (.ref fPI)) (kPI : PySem.W.keepIn K (.ref fPI) = true) (bPI : Binds K dPI ["feed", "some"] []) (GPS : FnOk P w K mg base CX0 (k + 2) fPI dPI ["feed", "some"] spPickS) (mlen : mg "len" = none) : FnOk P w K mg base CX0 (k + 3) f fd ["feed", "text"] spCH := by
  refine F.ok scCH (fun vs H Q E h => ?_) (fun cdv A outer s H vs Q E hr h => ?_)
  · obtain ⟨f, x, rfl, _⟩ := h
    rfl
  · obtain ⟨f, x, rfl, fe, hl, hasc, hq⟩ := h
    refine ⟨_, (pss_cons (ps_set (i := 2) scCH.nd rfl (.inl rfl) (pe_call (GPI.mono (show k + 2 ≤ k + 2 by omega)) hr (by rfl) gPI kPI bPI .nil pass0 (pa_cons (pv 0) (pa_cons (pe_lst (pa_cons pe_str (pa_cons pe_str (pa_cons pe_str pa_nil)))) pa_nil))))
      (pss_cons (ps_set (i := 3) scCH.nd rfl (.inl rfl) (pe_split (pv 1) (pv 2)))
      (pss_cons (ps_par (i := 4) (j := 5) (by rfl) scCH.nd rfl rfl (by decide) rfl rfl (pa_cons (pe_call (GTA.mono (show k + 1 ≤ k + 2 by omega)) hr (by rfl) gTA kTA bTA .nil pass0 (pa_cons (pv 0) (pa_cons (pe_callB call_len_seq (by rfl) mlen PySem.boot_len (pa_cons (pv 3) pa_nil)) pa_nil))) (pa_cons (pe_call (GTA.mono (show k + 1 ≤ k + 2 by omega)) hr (by rfl) gTA kTA bTA .nil pass0 (pa_cons (pv 0) (pa_cons (pe_callB call_len_seq (by rfl) mlen PySem.boot_len (pa_cons (pv 3) pa_nil)) pa_nil))) pa_nil)) (by rfl))
      (pss_cons (ps_set (i := 6) scCH.nd rfl (.inl rfl) (pe_call (GTA.mono (show k + 1 ≤ k + 2 by omega)) hr (by rfl) gTA kTA bTA .nil pass0 (pa_cons (pv 0) (pa_cons pe_int pa_nil))))
      (pss_cons (ps_set (i := 7) scCH.nd rfl (.inl rfl) (pe_lst (pa_cons pe_str (pa_cons pe_str (pa_cons pe_str (pa_cons pe_str (pa_cons pe_str (pa_cons pe_str (pa_cons pe_str (pa_cons pe_str (pa_cons pe_str (pa_cons pe_str (pa_cons pe_str pa_nil)))))))))))))
      (pss_cons (ps_set (i := 7) scCH.nd rfl (.inl rfl) (pe_op op_cat (pv 7) (pe_lst (pa_cons pe_str (pa_cons pe_str (pa_cons pe_str (pa_cons pe_str (pa_cons pe_str pa_nil))))))))
      (pss_cons (ps_if (pt_cmpR op_eq (pv 6) pe_int (nomark _)) (pss_one (ps_expr (pe_bm PySem.F.plainAttrs_list PySem.F.slot_list_pop PySem.F.type_list_pop mt_popAt (pv 3) (pa_cons (pv 4) pa_nil)))) (pss_one (ps_if (pt_cmpR op_eq (pv 6) pe_int (nomark _)) (pss_one (ps_expr (pe_bm PySem.F.plainAttrs_list PySem.F.slot_list_insert PySem.F.type_list_insert mt_insert (pv 3) (pa_cons (pv 5) (pa_cons (pe_ix ix_list (pv 3) (pv 4) (fun _ _ => rfl)) pa_nil))))) (pss_one (ps_if (pt_cmpR op_eq (pv 6) pe_int (nomark _)) (pss_one (ps_asg (pe_tup (pa_cons (pe_ix ix_list (pv 3) (pv 5) (fun _ _ => rfl)) (pa_cons (pe_ix ix_list (pv 3) (pv 4) (fun _ _ => rfl)) pa_nil))) (pg_tup rfl (pgs_cons (pg_sub (pv 3) (pv 4) set_list) (pgs_cons (pg_sub (pv 3) (pv 5) set_list) pgs_nil))))) (pss_one (ps_if (pt_cmpR op_eq (pv 6) pe_int (nomark _)) (pss_one (ps_asg (pe_call (GPI.mono (show k + 2 ≤ k + 2 by omega)) hr (by rfl) gPI kPI bPI .nil pass0 (pa_cons (pv 0) (pa_cons (pv 7) pa_nil))) (pg_sub (pv 3) (pv 4) set_list))) (pss_one (ps_if (pt_cmpR op_eq (pv 6) pe_int (nomark _)) (pss_one (ps_expr (pe_bm PySem.F.plainAttrs_list PySem.F.slot_list_insert PySem.F.type_list_insert mt_insert (pv 3) (pa_cons (pv 4) (pa_cons (pe_call (GPI.mono (show k + 2 ≤ k + 2 by omega)) hr (by rfl) gPI kPI bPI .nil pass0 (pa_cons (pv 0) (pa_cons (pv 7) pa_nil))) pa_nil))))) (pss_cons (ps_set (i := 8) scCH.nd rfl (.inl rfl) (pe_call (GTA.mono (show k + 1 ≤ k + 2 by omega)) hr (by rfl) gTA kTA bTA .nil pass0 (pa_cons (pv 0) (pa_cons (pe_op op_add (pe_callB call_len_str (by rfl) mlen PySem.boot_len (pa_cons (pv 1) pa_nil)) pe_int) pa_nil))))
      (pss_one (ps_ret (pe_op op_add_str (pe_op op_add_str (pe_slice sl_str (pv 1) po_none (po_some (pv 8))) (pe_call (GPS.mono (show k + 2 ≤ k + 2 by omega)) hr (by rfl) gPI kPI bPI .nil pass0 (pa_cons (pv 0) (pa_cons pe_str pa_nil)))) (pe_slice sl_str (pv 1) (po_some (pe_op op_add (pv 8) (pe_call (GTA.mono (show k + 1 ≤ k + 2 by omega)) hr (by rfl) gTA kTA bTA .nil pass0 (pa_cons (pv 0) (pa_cons pe_int pa_nil))))) po_none))))))))))))))
      (pss_one (ps_ret (pe_join (pv 2) (pv 3))))))))))), ?_⟩
    refine ⟨.ref f, rfl, by show 3 ≤ sizeLine; decide, fun l nl => ?_⟩
    have sl := same_new (o := .lst [.str "\n", .str " ", .str " "]) nl
    refine ⟨f, l, _, rfl, fe.ne nl, SqL.of upd_same, by show 0 < 3; decide, by show 3 ≤ 1000; decide, fe.same sl, fun H1 j v hv c1 fe1 => ?_⟩
    obtain ⟨sp, s_, rfl, esp, hk, hlen⟩ : ∃ (sp : Str) (s_ : Nat), v = .str sp ∧ TL.tl sp = [s_] ∧ sp.cps.all (· < 256) = true ∧ s_ < 128 := by
      match j, hv with
      | 0, hv => exact ⟨"\n", 10, (Option.some.inj hv).symm, by decide +kernel, by decide +kernel, by decide⟩
      | 1, hv => exact ⟨" ", 32, (Option.some.inj hv).symm, by decide +kernel, by decide +kernel, by decide⟩
      | 2, hv => exact ⟨" ", 32, (Option.some.inj hv).symm, by decide +kernel, by decide +kernel, by decide⟩
      | n + 3, hv => simp at hv
    have l1 : sp.length = 1 := by rw [TL.len_tl, esp]; rfl
    have asp : Asc sp := fun c hc => by rw [esp, List.mem_singleton] at hc; rw [hc]; exact hlen
    have c01 : Ch f H H1 := (Ch.of_same sl).trans c1
    clear c1 sl nl
    refine ⟨.str x, rfl, ⟨_, rfl⟩, .str sp, rfl, x, sp, rfl, rfl, by rw [l1]; rfl, Nat.le_trans (Nat.add_le_add_right hl 2) (by decide), fun S nS => ?_⟩
    have aw := split_asc esp hk hasc
    have hjl : jl (Txt.split x sp) = x.length + 1 := by
      have hne : Txt.split x sp ≠ [] := fun z => NY.spl_ne s_ (TL.tl x) [] (by rw [← NY.split_map esp hk, z]; rfl)
      rw [← join_jl l1 hne, ← TL.join_eq, NY.join_split esp hk]
    have hpos : 0 < (Txt.split x sp).length := by
      cases k : Txt.split x sp with
      | nil => rw [k] at hjl; exact absurd hjl (by show ¬ 0 = _; omega)
      | cons _ _ => exact Nat.succ_pos _
    have hcnt := NY.split_count esp hk x
    have nSf : S ≠ f := fe1.ne nS
    have nS0 : H S = none := c01.free nSf nS
    have sS := same_new (o := .lst ((Txt.split x sp).map V.str)) nS
    have eS := upd_same (H := H1) (a := S) (o := .lst ((Txt.split x sp).map V.str))
    have fe2 := fe1.same sS
    have c02 := c01.trans (Ch.of_same sS)
    generalize upd H1 S (.lst ((Txt.split x sp).map V.str)) = H2 at eS fe2 c02 ⊢
    generalize Txt.split x sp = ws at aw hjl hpos hcnt eS ⊢
    clear sS c01 fe1 nS
    have lws : (ws.map V.str).length = ws.length := List.length_map _
    refine ⟨.ref f, rfl, .ref S, rfl, S, _, rfl, .inl (SqL.of eS), f, _, rfl, by omega, by omega, fe2, fun H3 at_ c3 fe3 a0 a1 => ?_⟩
    have eS3 := c3 _ _ nSf eS
    refine ⟨.ref f, rfl, .ref S, rfl, S, _, rfl, .inl (SqL.of eS3), f, _, rfl, by omega, by omega, fe3, fun H4 ot c4 fe4 o0 o1 => ?_⟩
    have eS4 := c4 _ _ nSf eS3
    refine ⟨.int at_, .int ot, rfl, .ref f, rfl, f, 6, rfl, by decide, by decide, fe4, fun H5 tn c5 fe5 t0 t6 => ?_⟩
    have eS5 := c5 _ _ nSf eS4
    have c05 := c02.trans (c3.trans (c4.trans c5))
    clear c02 c3 c4 c5 eS eS3 eS4 fe2 fe3 fe4
    obtain ⟨i, rfl⟩ : ∃ i : Nat, at_ = (i : Int) := ⟨at_.toNat, by omega⟩
    obtain ⟨j, rfl⟩ : ∃ j : Nat, ot = (j : Int) := ⟨ot.toNat, by omega⟩
    have hi : i < ws.length := by omega
    have hj : j < ws.length := by omega
    -- odd
    refine ⟨by show 11 ≤ sizeLine; decide, fun o1 no1 => ?_⟩
    have so1 := same_new (o := .lst ((ODD.take 11).map V.str)) no1
    have eo1 := upd_same (H := H5) (a := o1) (o := .lst ((ODD.take 11).map V.str))
    refine ⟨.ref o1, rfl, by show 5 ≤ sizeLine; decide, fun o2 no2 => ?_⟩
    have so2 := same_new (o := .lst ((ODD.drop 11).map V.str)) no2
    have eo1b := so2 _ _ eo1
    have eo2 := upd_same (H := upd H5 o1 (.lst ((ODD.take 11).map V.str))) (a := o2) (o := .lst ((ODD.drop 11).map V.str))
    refine ⟨o1, o2, (ODD.take 11).map V.str, (ODD.drop 11).map V.str, rfl, rfl, eo1b, eo2, by show 11 + 5 ≤ sizeLine; decide, fun od nod => ?_⟩
    have so3 := same_new (o := .lst (ODD.map V.str)) nod
    have eod := upd_same (H := upd (upd H5 o1 (.lst ((ODD.take 11).map V.str))) o2 (.lst ((ODD.drop 11).map V.str))) (a := od) (o := .lst (ODD.map V.str))
    have sO := so1.trans (so2.trans so3)
    have fe6 := fe5.same sO
    have eS6 := sO _ _ eS5
    have c06 := c05.trans (Ch.of_same sO)
    have nodf : od ≠ f := ((fe5.same so1).same so2).ne nod
    clear so1 so2 so3 eo1 eo1b eo2 sO fe5 eS5 c05
    have bd : ∀ vs : List Str, jl vs ≤ 3 * x.length + 60 → (vs.map (·.length)).sum + vs.length * sp.length ≤ 16777216 := fun vs h => by
      rw [l1, Nat.mul_one]
      have : jl vs = (vs.map (·.length)).sum + vs.length := rfl
      omega
    have sx : ∀ {n : Nat} {k : Nat}, k < n → n ≤ 5000 → PySem.seqIndex? ((k : Nat) : Int) n = some k := fun {n k} h _ => (ixN_seq (n := n) (i := (k : Int)) (j := k) (by unfold ixN; rw [if_pos (by omega), if_pos (by omega)]; rfl)).1
    have nx : ∀ {n : Nat} {k : Nat}, k < n → ixN n ((k : Nat) : Int) = some k := fun {n k} h => by unfold ixN; rw [if_pos (by omega), if_pos (by omega)]; rfl
    have gi : ws[i]? = some ws[i] := List.getElem?_eq_getElem hi
    have gj : ws[j]? = some ws[j] := List.getElem?_eq_getElem hj
    have giv : (ws.map V.str)[i]? = some (.str ws[i]) := by rw [List.getElem?_map, gi]; rfl
    have gjv : (ws.map V.str)[j]? = some (.str ws[j]) := by rw [List.getElem?_map, gj]; rfl
    have ai := aw ws[i] (List.getElem_mem hi)
    have aj := aw ws[j] (List.getElem_mem hj)
    have li : ws[i].length ≤ x.length := by have := jl_mem (List.getElem_mem hi); omega
    have lj : ws[j].length ≤ x.length := by have := jl_mem (List.getElem_mem hj); omega
    have l5 : (ws.map V.str).length ≤ 5000 := by omega
    have put : ∀ {Hy : Hp} {vs : List V}, Ch f H Hy → Ch f H (upd Hy S (.lst vs)) := fun c => Ch.again nS0 c
    refine ⟨.int tn, rfl, rfl, _, rfl, ?_⟩
    by_cases t0' : tn = 0
    · rw [decide_eq_true (congrArg V.int t0')]
      refine iteT ⟨.ref S, rfl, .inl ⟨rfl, _, SqL.of eS6⟩, .int (i : Int), rfl, S, _, (i : Int), i, .str ws[i], rfl, rfl, eS6, by omega, by omega, sx (by omega) l5, giv, ?_⟩
      have em : (ws.map V.str).eraseIdx i = (ws.eraseIdx i).map V.str := erase_map _ _ _
      have hb : jl (ws.eraseIdx i) ≤ 3 * x.length + 60 := by have := jl_erase ws i; omega
      refine ⟨.str sp, rfl, ⟨_, rfl⟩, .ref S, rfl, sp, S, ws.eraseIdx i, rfl, rfl, .inl (SqL.of (by rw [upd_same, em])), bd _ hb, hq _ _ (put c06) (fe6.upd nSf) (Nat.le_trans (tjoin_jl l1 _) hb) (asc_join asp fun u hu => aw u (List.mem_of_mem_eraseIdx hu))⟩
    rw [decide_eq_false (show ¬ V.int tn = V.int 0 from fun z => t0' (V.int.inj z))]
    refine iteF ⟨.int tn, rfl, rfl, _, rfl, ?_⟩
    by_cases t1' : tn = 1
    · rw [decide_eq_true (congrArg V.int t1')]
      refine iteT ⟨.ref S, rfl, .inl ⟨rfl, _, SqL.of eS6⟩, .int (j : Int), rfl, .ref S, rfl, .int (i : Int), rfl, S, _, _, .str ws[i], rfl, rfl, SqL.of eS6, atI_nat giv, S, _, (j : Int), .str ws[i], rfl, rfl, eS6, Nat.lt_of_le_of_lt l5 (by decide), by omega, by omega, ?_⟩
      have em : (ws.map V.str).take (j : Int).toNat ++ [V.str ws[i]] ++ (ws.map V.str).drop (j : Int).toNat = (ws.take j ++ [ws[i]] ++ ws.drop j).map V.str := by
        rw [Int.toNat_natCast, List.map_append, List.map_append, List.map_take, List.map_drop]
        rfl
      have hb : jl (ws.take j ++ [ws[i]] ++ ws.drop j) ≤ 3 * x.length + 60 := by rw [jl_ins]; omega
      refine ⟨.str sp, rfl, ⟨_, rfl⟩, .ref S, rfl, sp, S, _, rfl, rfl, .inl (SqL.of (by rw [upd_same, em])), bd _ hb, hq _ _ (put c06) (fe6.upd nSf) (Nat.le_trans (tjoin_jl l1 _) hb) (asc_join asp fun u hu => ?_)⟩
      rcases List.mem_append.mp hu with k | k
      · rcases List.mem_append.mp k with k | k
        · exact aw u (List.mem_of_mem_take k)
        · rw [List.mem_singleton.mp k]; exact ai
      · exact aw u (List.mem_of_mem_drop k)
    rw [decide_eq_false (show ¬ V.int tn = V.int 1 from fun z => t1' (V.int.inj z))]
    refine iteF ⟨.int tn, rfl, rfl, _, rfl, ?_⟩
    by_cases t2' : tn = 2
    · rw [decide_eq_true (congrArg V.int t2')]
      refine iteT ⟨.ref S, rfl, .int (j : Int), rfl, S, _, _, .str ws[j], rfl, rfl, SqL.of eS6, atI_nat gjv, .ref S, rfl, .int (i : Int), rfl, S, _, _, .str ws[i], rfl, rfl, SqL.of eS6, atI_nat giv, by show 2 ≤ sizeLine; decide, fun t nt => ?_⟩
      have st := same_new (o := .tup [.str ws[j], .str ws[i]]) nt
      have eS7 := st _ _ eS6
      refine ⟨t, _, rfl, SqT.of upd_same, rfl, .str ws[j], [.str ws[i]], rfl, .ref S, rfl, .int (i : Int), rfl, S, ws.map V.str, _, i, rfl, rfl, eS7, nx (by omega), .str ws[i], [], rfl, .ref S, rfl, .int (j : Int), rfl, S, _, _, j, rfl, rfl, upd_same, nx (by rw [List.length_set]; omega), rfl, ?_⟩
      have em : ((ws.map V.str).set i (.str ws[j])).set j (.str ws[i]) = ((ws.set i ws[j]).set j ws[i]).map V.str := by rw [List.map_set, List.map_set]
      have hb : jl ((ws.set i ws[j]).set j ws[i]) ≤ 3 * x.length + 60 := by
        have h1 := jl_set (ws.set i ws[j]) j ws[i]
        have h2 := jl_set ws i ws[j]
        omega
      refine ⟨.str sp, rfl, ⟨_, rfl⟩, .ref S, rfl, sp, S, _, rfl, rfl, .inl (SqL.of (by rw [upd_same, em])), bd _ hb, hq _ _ (put (put (c06.trans (Ch.of_same st)))) (((fe6.same st).upd nSf).upd nSf) (Nat.le_trans (tjoin_jl l1 _) hb) (asc_join asp fun u hu => ?_)⟩
      rcases List.mem_or_eq_of_mem_set hu with k | k
      · rcases List.mem_or_eq_of_mem_set k with k | k
        · exact aw u k
        · rw [k]; exact aj
      · rw [k]; exact ai
    rw [decide_eq_false (show ¬ V.int tn = V.int 2 from fun z => t2' (V.int.inj z))]
    refine iteF ⟨.int tn, rfl, rfl, _, rfl, ?_⟩
    by_cases t3' : tn = 3
    · rw [decide_eq_true (congrArg V.int t3')]
      refine iteT ⟨.ref f, rfl, .ref od, rfl, f, od, _, rfl, nodf, SqL.of eod, by show 0 < 16; decide, by show 16 ≤ 1000; decide, fe6, fun H7 m v hv c7 fe7 => ?_⟩
      rw [List.getElem?_map] at hv
      obtain ⟨u, hu0, rfl⟩ := Option.map_eq_some_iff.mp hv
      obtain ⟨ou1, ou2⟩ := odd_ok u (List.mem_of_getElem? hu0)
      refine ⟨.ref S, rfl, .int (i : Int), rfl, S, ws.map V.str, _, i, rfl, rfl, c7 _ _ nSf eS6, nx (by omega), ?_⟩
      have em : (ws.map V.str).set i (.str u) = (ws.set i u).map V.str := by rw [List.map_set]
      have hb : jl (ws.set i u) ≤ 3 * x.length + 60 := by have h2 := jl_set ws i u; omega
      refine ⟨.str sp, rfl, ⟨_, rfl⟩, .ref S, rfl, sp, S, _, rfl, rfl, .inl (SqL.of (by rw [upd_same, em])), bd _ hb, hq _ _ (put (c06.trans c7)) (fe7.upd nSf) (Nat.le_trans (tjoin_jl l1 _) hb) (asc_join asp fun z hz => ?_)⟩
      rcases List.mem_or_eq_of_mem_set hz with k | k
      · exact aw z k
      · rw [k]; exact ou2
    rw [decide_eq_false (show ¬ V.int tn = V.int 3 from fun z => t3' (V.int.inj z))]
    refine iteF ⟨.int tn, rfl, rfl, _, rfl, ?_⟩
    by_cases t4' : tn = 4
    · rw [decide_eq_true (congrArg V.int t4')]
      refine iteT ⟨.ref S, rfl, .inl ⟨rfl, _, SqL.of eS6⟩, .int (i : Int), rfl, .ref f, rfl, .ref od, rfl, f, od, _, rfl, nodf, SqL.of eod, by show 0 < 16; decide, by show 16 ≤ 1000; decide, fe6, fun H7 m v hv c7 fe7 => ?_⟩
      rw [List.getElem?_map] at hv
      obtain ⟨u, hu0, rfl⟩ := Option.map_eq_some_iff.mp hv
      obtain ⟨ou1, ou2⟩ := odd_ok u (List.mem_of_getElem? hu0)
      refine ⟨S, _, (i : Int), .str u, rfl, rfl, c7 _ _ nSf eS6, Nat.lt_of_le_of_lt l5 (by decide), by omega, by omega, ?_⟩
      have em : (ws.map V.str).take (i : Int).toNat ++ [V.str u] ++ (ws.map V.str).drop (i : Int).toNat = (ws.take i ++ [u] ++ ws.drop i).map V.str := by
        rw [Int.toNat_natCast, List.map_append, List.map_append, List.map_take, List.map_drop]
        rfl
      have hb : jl (ws.take i ++ [u] ++ ws.drop i) ≤ 3 * x.length + 60 := by rw [jl_ins]; omega
      refine ⟨.str sp, rfl, ⟨_, rfl⟩, .ref S, rfl, sp, S, _, rfl, rfl, .inl (SqL.of (by rw [upd_same, em])), bd _ hb, hq _ _ (put (c06.trans c7)) (fe7.upd nSf) (Nat.le_trans (tjoin_jl l1 _) hb) (asc_join asp fun z hz => ?_)⟩
      rcases List.mem_append.mp hz with k | k
      · rcases List.mem_append.mp k with k | k
        · exact aw z (List.mem_of_mem_take k)
        · rw [List.mem_singleton.mp k]; exact ou2
      · exact aw z (List.mem_of_mem_drop k)
    rw [decide_eq_false (show ¬ V.int tn = V.int 4 from fun z => t4' (V.int.inj z))]
    have hz : x.length ≤ sizeLine := Nat.le_trans hl (by decide)
    refine iteF ⟨.ref f, rfl, .str x, rfl, x, rfl, hz, _, 1, rfl, rfl, f, _, rfl, by omega, by omega, fe6, fun H7 pl c7 fe7 p0 p1 => ?_⟩
    refine ⟨.str x, rfl, .int pl, rfl, pl, rfl, x, rfl, hz, .ref f, rfl, f, " \n-0139x.:_", rfl, by decide +kernel, by decide +kernel, fe7, fun H8 c hc c8 fe8 => ?_⟩
    have q1 := cutS_length x none (some pl)
    refine ⟨_, ⟨#[c]⟩, rfl, rfl, by rw [len_one]; exact Nat.le_trans (show _ ≤ 5000 by omega) (by decide), .str x, rfl, .int pl, rfl, .ref f, rfl, f, 2, rfl, by decide, by decide, fe8, fun H9 tk c9 fe9 k0 k1 => ⟨pl, tk, rfl, rfl, _, rfl, x, rfl, hz, ?_⟩⟩
    have q2 := cutS_length x (some (pl + tk)) none
    have hlen3 : ((cutS x none (some pl) ++ (⟨#[c]⟩ : Str)) ++ cutS x (some (pl + tk)) none).length ≤ 2 * x.length + 1 := by
      rw [WN.len_app, WN.len_app, len_one]; omega
    refine ⟨_, _, rfl, rfl, by rw [WN.len_app, len_one]; exact Nat.le_trans (show _ ≤ 9000 by omega) (by decide), hq _ _ (c06.trans (c7.trans (c8.trans c9))) fe9 (by omega) ?_⟩
    exact asc_app (asc_app (asc_cut hasc _ _) (fun d hd => by rw [show d = c from List.mem_singleton.mp hd]; exact pk_asc c hc)) (asc_cut hasc _ _)
end
end X5C

/-! text * int; repr of a text or an int -/
namespace GRS
open PySem PySem.Spec PyProof.Rows L2
def repS (x : Str) (n : Nat) : Str := ⟨(List.replicate n x.cps).foldl (· ++ ·) #[]⟩
theorem fold_rep (a : Array Nat) : ∀ (n : Nat) (acc : Array Nat), ((List.replicate n a).foldl (· ++ ·) acc).toList = acc.toList ++ (List.replicate n a.toList).flatten
  | 0, acc => by simp
  | n + 1, acc => by
    rw [List.replicate_succ, List.foldl_cons, fold_rep a n, List.replicate_succ, List.flatten_cons, Array.toList_append, List.append_assoc]
theorem repS_tl (x : Str) (n : Nat) : TL.tl (repS x n) = (List.replicate n (TL.tl x)).flatten := by
  show ((List.replicate n x.cps).foldl (· ++ ·) #[]).toList = _
  rw [fold_rep]
  rfl
theorem flat_len (l : List Nat) : ∀ n, (List.replicate n l).flatten.length = n * l.length
  | 0 => by simp
  | n + 1 => by rw [List.replicate_succ, List.flatten_cons, List.length_append, flat_len l n, Nat.succ_mul, Nat.add_comm]
theorem repS_len (x : Str) (n : Nat) : (repS x n).length = n * x.length := by
  rw [TL.len_tl, repS_tl, flat_len, ← TL.len_tl]
theorem repS_mem {x : Str} {n c : Nat} (h : c ∈ TL.tl (repS x n)) : c ∈ TL.tl x := by
  rw [repS_tl] at h
  obtain ⟨l, hl, hc⟩ := List.mem_flatten.mp h
  rw [(List.mem_replicate.mp hl).2] at hc
  exact hc
section
variable {X : Cx}
def rRepS : R2 := fun x y H Q => ∃ (z : Str) (n : Int), x = .str z ∧ y = .int n ∧ 2 ≤ n ∧ n ≤ 10000 ∧ 0 < z.length ∧ z.length ≤ 100 ∧ Q (.str (repS z n.toNat)) H
theorem op_repS : OpR X (binaryOp .Mult) rRepS := by
  intro pins s σ H x y v u Q I rx ry h
  obtain ⟨z, n, rfl, rfl, h1, h2, h3, h4, q⟩ := h
  obtain ⟨t, rfl⟩ := rx
  obtain ⟨t', rfl⟩ := ry
  have hl : (repS z n.toNat).length ≤ 1000000 := by
    rw [repS_len]
    exact Nat.le_trans (Nat.mul_le_mul (show n.toNat ≤ 10000 by omega) h4) (by decide)
  have hz : (repS z n.toNat).length ≤ sizeLine := Nat.le_trans hl (by decide)
  have e1 : (n == 1 || z.length == 0) = false := by
    rw [beq_eq_false_iff_ne.mpr (show n ≠ 1 by omega), beq_eq_false_iff_ne.mpr (show z.length ≠ 0 by omega)]
    rfl
  refine PySem.P.mul_str (by rw [decide_eq_false (by omega), decide_eq_false (by omega)]; rfl) (fun _ _ => ?_) (fun _ _ => ?_) ?_
  · have : (100 : Int) ≤ (2 ^ 63 - 1) / n := Int.le_ediv_of_mul_le (by omega) (by omega)
    omega
  · have := repS_len z n.toNat
    unfold PySem.Builtin.Str.tooLong
    exact decide_eq_false (by rw [Nat.mul_comm, ← this]; omega)
  · rw [if_neg (by omega), e1]
    exact ⟨hz, .str _, H, I.tok _, ⟨_, rfl⟩, q⟩
/-- the text that repr makes of a text or an int -/
def shw : V → Str
  | .str x => reprText x
  | .int i => toString i
  | _ => ""
def rReprT : List V → Hp → VK → Prop := fun vs H Q => ∃ v, vs = [v] ∧ ((∃ x, v = .str x ∧ x.length ≤ 100000 ∧ ∀ c ∈ TL.tl x, c < 128) ∨ ∃ i : Int, v = .int i ∧ i.natAbs.log2 < 1920) ∧ Q (.str (shw v)) H
theorem cr_reprT : CallR X (.builtin "repr") rReprT := by
  intro pins s σ H vs us Q I r h
  obtain ⟨v, rfl, hv, q⟩ := h
  cases r with
  | cons ru rt =>
    cases rt
    rcases hv with ⟨x, rfl, hl, ha⟩ | ⟨i, rfl, hi⟩
    · obtain ⟨t, rfl⟩ := ru
      have hb : (reprText x).length ≤ sizeLine := by
        have := PySem.StrLaws.reprText_len x fun c hc => Nat.lt_of_lt_of_le (ha c hc) (by decide)
        exact Nat.le_trans this (Nat.le_trans (show _ ≤ 1000002 by omega) (by decide))
      exact PySem.P.repr_of_str ⟨.str _, H, I.tok _, ⟨_, rfl⟩, q⟩ hb
    · obtain ⟨t, rfl⟩ := ru
      exact PySem.P.repr_of_int hi ⟨.str _, H, I.tok _, ⟨_, rfl⟩, q⟩
end
end GRS

set_option pp.maxSteps 900
/-! k51's law -/
namespace X5L
open PySem PySem.Spec PyProof.Rows L2 KA KD PH PM RM K52b XU GML XE X5P X5R X5C
open XT hiding pairs_get
open NX (Val)
open Z5K hiding spNM strs_at sEQ
abbrev sEc : Stmt := topS 3
abbrev sEI : Stmt := inClass sEc 0
abbrev sLaw : Stmt := topS 26
theorem scLaw : FnScope ["script", "far", "k", "feed", "texts", "turn", "entries", "text", "again", "entry", "number"] ["script"] (defScope X5L.sLaw) := ⟨rfl, rfl, rfl, by decide +kernel, rfl, by decide +kernel, by decide +kernel⟩
structure Txt (P : Program) (K : PySem.W.Frag) (mg : Str → Option Value) (fNU fRD fNL fRO fEO fFE fTA fPI fIV fEN fLN fDU fTO fCH CT_ fUI pP fPA fEQ fUS C CW fEI : Addr) (dNU dRD dNL dRO dEO dFE dTA dPI dIV dEN dLN dDU dTO dCH dUI dPA dEQ dUS dEI : FuncData) : Prop where
  FNU : Fun K "is_number" "is_number" Z5K.sNU fNU dNU
  gNU : mg "is_number" = some (.ref fNU)
  kNU : PySem.W.keepIn K (.ref fNU) = true
  bNU : Binds K dNU ["value"] []
  FRD : Fun K "is_reading" "is_reading" Z5K.sRD fRD dRD
  gRD : mg "is_reading" = some (.ref fRD)
  kRD : PySem.W.keepIn K (.ref fRD) = true
  bRD : Binds K dRD ["value"] []
  FNL : Fun K "is_numeral" "is_numeral" Z5K.sNM fNL dNL
  gNL : mg "is_numeral" = some (.ref fNL)
  kNL : PySem.W.keepIn K (.ref fNL) = true
  bNL : Binds K dNL ["word"] []
  FRO : Fun K "reading_of" "reading_of" Z5K.sRO fRO dRO
  gRO : mg "reading_of" = some (.ref fRO)
  kRO : PySem.W.keepIn K (.ref fRO) = true
  bRO : Binds K dRO ["word"] []
  FEO : Fun K "entry_of" "entry_of" Z5K.sEO fEO dEO
  gEO : mg "entry_of" = some (.ref fEO)
  kEO : PySem.W.keepIn K (.ref fEO) = true
  bEO : Binds K dEO ["words"] []
  FFE : Fun K "_law_feed" "_law_feed" sFeed fFE dFE
  gFE : mg "_law_feed" = some (.ref fFE)
  kFE : PySem.W.keepIn K (.ref fFE) = true
  bFE : Binds K dFE ["script", "k"] []
  FTA : Fun K "_law_take" "_law_take" sTake fTA dTA
  gTA : mg "_law_take" = some (.ref fTA)
  kTA : PySem.W.keepIn K (.ref fTA) = true
  bTA : Binds K dTA ["feed", "many"] []
  FPI : Fun K "_law_pick" "_law_pick" sPick fPI dPI
  gPI : mg "_law_pick" = some (.ref fPI)
  kPI : PySem.W.keepIn K (.ref fPI) = true
  bPI : Binds K dPI ["feed", "some"] []
  FIV : Fun K "_law_interval" "_law_interval" sIv fIV dIV
  gIV : mg "_law_interval" = some (.ref fIV)
  kIV : PySem.W.keepIn K (.ref fIV) = true
  bIV : Binds K dIV ["feed", "most"] []
  FEN : Fun K "_law_entries" "_law_entries" sEn fEN dEN
  gEN : mg "_law_entries" = some (.ref fEN)
  kEN : PySem.W.keepIn K (.ref fEN) = true
  bEN : Binds K dEN ["feed", "most"] []
  FLN : Fun K "_law_number" "_law_number" X5R.sLN fLN dLN
  gLN : mg "_law_number" = some (.ref fLN)
  kLN : PySem.W.keepIn K (.ref fLN) = true
  bLN : Binds K dLN ["word"] []
  FDU : Fun K "_law_due" "_law_due" X5R.sDU fDU dDU
  gDU : mg "_law_due" = some (.ref fDU)
  kDU : PySem.W.keepIn K (.ref fDU) = true
  bDU : Binds K dDU ["text"] []
  FTO : Fun K "_law_told" "_law_told" X5R.sTO fTO dTO
  gTO : mg "_law_told" = some (.ref fTO)
  kTO : PySem.W.keepIn K (.ref fTO) = true
  bTO : Binds K dTO ["text"] []
  FCH : Fun K "_law_changed" "_law_changed" X5C.sCH fCH dCH
  gCH : mg "_law_changed" = some (.ref fCH)
  kCH : PySem.W.keepIn K (.ref fCH) = true
  bCH : Binds K dCH ["feed", "text"] []
  gCT_ : mg "Table" = some (.ref CT_)
  tbl : Tbl K CT_
  mkT : Mk K CT_ fUI
  FUI : Fun K "__init__" "Table.__init__" sTI fUI dUI
  bUI : Binds K dUI ["self", "entries"] []
  rd : ClX.CRead K CT_ (.type "type")
  cm : ClX.CMet K CT_ (.type "type") "parse" pP fPA
  FPA : Fun K "parse" "Table.parse" Z5K.sPA fPA dPA
  bPA : Binds K dPA ["cls", "text"] []
  insEQ : C8.InsC K CT_
  fnEQ : PySem.W.findIn K (.ref CT_) "__eq__" = some (some (.ref fEQ))
  iEQ : PySem.W.isFn K (.ref fEQ) = true
  FEQ : Fun K "__eq__" "Table.__eq__" Z5K.sEQ fEQ dEQ
  bEQ : Binds K dEQ ["self", "other"] []
  fnUS : PySem.W.findIn K (.ref CT_) "__str__" = some (some (.ref fUS))
  iUS : PySem.W.isFn K (.ref fUS) = true
  FUS : Fun K "__str__" "Table.__str__" H8T.sTS fUS dUS
  bUS : Binds K dUS ["self"] []
  gLIM : ∃ u, mg "LIMIT" = some u ∧ RelV (.int 1000000000) u
  gLON : ∃ u, mg "LONGEST" = some u ∧ RelV (.int 11) u
  gGRE : ∃ u, mg "GREATEST" = some u ∧ RelV (.int 1000000) u
  len : mg "len" = none
  max : mg "max" = none
  min : mg "min" = none
  abs : mg "abs" = none
  range : mg "range" = none
  tuple : mg "tuple" = none
  int : mg "int" = none
  enumerate : mg "enumerate" = none
  isinstance : mg "isinstance" = none
  bool : mg "bool" = none
  repr : mg "repr" = none
  str : mg "str" = none
  ValueError : mg "ValueError" = none
  gE : mg "InvalidText" = some (.ref C)
  gW : mg "WearError" = some (.ref CW)
  eC : ErrC K C fEI "row"
  FEI : XS.FunS K P "__init__" "InvalidText.__init__" sEI C fEI dEI
  bEI : Binds K dEI ["self", "row"] []
  sK : XS.SupK K P mg
  sC : XS.SupC K C
  xf : XS.XfA K "row" C
  ec : ExcC K C
  exm : PySem.W.exmOne K (.ref C) (.ref CW) = some true
  kv : PySem.W.kitOne K (.ref C) (.type "ValueError") = some true
/-- str(number), the text of an entry -/
def teI : TE := tCB (fun xs H Q => ∃ i, xs = [.int i] ∧ i.natAbs.log2 < 1920 ∧ Q (.str (toString i)) H) (tCons (tVar 10) tNil)
def teO (K : PySem.W.Frag) : TE := tM1 (fun x xs H Q => ∃ a p, ∃ ys : List Str, x = .str a ∧ xs = [.ref p] ∧ (SqL K H p (ys.map V.str) ∨ SqT K H p (ys.map V.str)) ∧
      (ys.map (·.length)).sum + ys.length * a.length ≤ 16777216 ∧ Q (.str (Txt.join a ys)) H) (tC (V.str " ")) (tLc (iTup K (tVar 9)) (gName 10) tYes teI [10])
theorem ent_at {e : Ent} {j : Nat} {y : V} (h : [V.int e.1, .int e.2.1, .int e.2.2][j]? = some y) : ∃ n, y = .int n ∧ (NX.wds e)[j]? = some (NX.tI n) ∧ (n = e.1 ∨ n = e.2.1 ∨ n = e.2.2) := by
  match j, h with
  | 0, h => exact ⟨e.1, (Option.some.inj h).symm, rfl, .inl rfl⟩
  | 1, h => exact ⟨e.2.1, (Option.some.inj h).symm, rfl, .inr (.inl rfl)⟩
  | 2, h => exact ⟨e.2.2, (Option.some.inj h).symm, rfl, .inr (.inr rfl)⟩
  | n + 3, h => simp at h
/-- texts that may stand in the list -/
def OkT (ts : List Str) : Prop := ∀ t ∈ ts, Asc t ∧ t.length ≤ 20000
theorem okt_of {ts : List Str} (h : (ts.all fun u => decide (u.length ≤ 20000) && u.cps.all (· < 128)) = true) : OkT ts := fun u hu => by
  have h := List.all_eq_true.mp h u hu
  rw [Bool.and_eq_true, decide_eq_true_eq] at h
  refine ⟨fun c hc => ?_, h.1⟩
  have h2 := h.2
  rw [← Array.all_toList, List.all_eq_true] at h2
  exact of_decide_eq_true (h2 c hc)
theorem OkT.app {ts us : List Str} (h : OkT ts) (g : OkT us) : OkT (ts ++ us) := fun t ht => (List.mem_append.mp ht).elim (h t) (g t)
/-- at most so long, of ASCII signs -/
def Bn (m : Nat) (x : Str) : Prop := Asc x ∧ x.length ≤ m
theorem Bn.app {m n : Nat} {x y : Str} (h : Bn m x) (g : Bn n y) : Bn (m + n) (x ++ y) := ⟨asc_app h.1 g.1, by have h1 := h.2; have h2 := g.2; rw [WN.len_app]; omega⟩
theorem Bn.sl {m n : Nat} {x y : Str} (h : Bn m x) (g : Bn n y) (k : m + n ≤ 100000 := by decide) : x.length + y.length ≤ sizeLine := by
  have h1 := h.2
  have h2 := g.2
  exact Nat.le_trans (show _ ≤ 100000 by omega) (by decide)
theorem bn_of {x : Str} {m : Nat} (h : (decide (x.length ≤ m) && x.cps.all (· < 128)) = true) : Bn m x := by
  rw [Bool.and_eq_true, decide_eq_true_eq] at h
  refine ⟨fun c hc => ?_, h.1⟩
  have h2 := h.2
  rw [← Array.all_toList, List.all_eq_true] at h2
  exact of_decide_eq_true (h2 c hc)
theorem bn_rep {x : Str} {m n : Nat} (h : Bn m x) : Bn (n * m) (GRS.repS x n) := ⟨fun c hc => h.1 c (GRS.repS_mem hc), by rw [GRS.repS_len]; exact Nat.mul_le_mul_left n h.2⟩
theorem fst0_lt : ∀ {os : List (Option Ent)} {j : Nat}, fst0 os = some j → j < os.length
  | none :: os, j, h => by cases Option.some.inj h; exact Nat.succ_pos _
  | some e :: os, j, h => by
    have h2 : (fst0 os).map (· + 1) = some j := h
    cases k : fst0 os with
    | none => rw [k] at h2; cases h2
    | some m =>
      rw [k] at h2
      have := fst0_lt k
      have e2 : m + 1 = j := Option.some.inj h2
      rw [List.length_cons]; omega
  | [], _, h => by cases h
theorem fst0_log {x : Str} {j : Nat} (h : fst0 (NY.ents x) = some j) (hl : x.length ≤ 20000) : ((j : Int)).natAbs.log2 < 1920 := by
  have h1 := fst0_lt h
  have h2 := ents_len x
  exact WN.ti_log (by omega)
section
variable {P : Program} {w : World} {K : PySem.W.Frag} {mg : Str → Option Value} {base : Heap} {fNU fRD fNL fRO fEO fFE fTA fPI fIV fEN fLN fDU fTO fCH CT_ fUI pP fPA fEQ fUS C CW fEI : Addr} {dNU dRD dNL dRO dEO dFE dTA dPI dIV dEN dLN dDU dTO dCH dUI dPA dEQ dUS dEI : FuncData}
def spLaw (K : PySem.W.Frag) : Sp := fun vs H Q _ => ∃ (a : Addr) (ns : List Int), vs = [.ref a] ∧ SqL K H a (ns.map V.int) ∧ ns.length ≤ 63 ∧ ∀ H', Q (.bl true) H'
theorem len_law {K : PySem.W.Frag} : ∀ vs H Q E, (spLaw K) vs H Q E → vs.length = (["script"] : List Str).length := fun vs H Q E h => by
  obtain ⟨a, ns, rfl, _⟩ := h
  rfl
theorem ok_law {f0 : Addr} {fd : FuncData} (F : Fun K "law" "law" X5L.sLaw f0 fd) (T : Txt P K mg fNU fRD fNL fRO fEO fFE fTA fPI fIV fEN fLN fDU fTO fCH CT_ fUI pP fPA fEQ fUS C CW fEI dNU dRD dNL dRO dEO dFE dTA dPI dIV dEN dLN dDU dTO dCH dUI dPA dEQ dUS dEI) : KW.Kept P w K mg base 9 f0 fd ["script"] (spLaw K) := by
  have GNU : FnOk P w K mg base CX0 1 fNU dNU ["value"] spNU := ok_NU T.FNU T.isinstance T.int T.bool
  have GRD : FnOk P w K mg base CX0 2 fRD dRD ["value"] spRD := ok_RD T.FRD GNU T.gNU T.kNU T.bNU T.abs T.gLIM
  have GNL : FnOk P w K mg base CX0 1 fNL dNL ["word"] Z5K.spNM := Z5K.ok_NM T.FNL
  have GRO : FnOk P w K mg base CX0 3 fRO dRO ["word"] spRO := ok_RO T.FRO GRD T.gRD T.kRD T.bRD GNL T.gNL T.kNL T.bNL T.len T.int T.gLON
  have GEO : FnOk P w K mg base CX0 4 fEO dEO ["words"] spEO := ok_EO T.FEO GRO T.gRO T.kRO T.bRO T.len T.gGRE
  have GUI : FnOk P w K mg base CX0 1 fUI dUI ["self", "entries"] (spTI K CT_) := ok_TI T.FUI T.tbl T.tuple
  have GUS : FnOk P w K mg base CX0 1 fUS dUS ["self"] (H8T.spTS CT_) := H8T.ok_TS T.FUS T.tbl
  have GFE : FnOk P w K mg base CX0 1 fFE dFE ["script", "k"] (spFeed K) := ok_feed T.FFE T.len T.max T.abs
  have GTA : FnOk P w K mg base CX0 1 fTA dTA ["feed", "many"] spTake := ok_take T.FTA
  have GPI : FnOk P w K mg base CX0 2 fPI dPI ["feed", "some"] (spPick K) := ok_pick T.FPI T.FTA T.gTA T.bTA T.len
  have GIV : FnOk P w K mg base CX0 2 fIV dIV ["feed", "most"] spIv := ok_iv T.FIV GTA T.gTA T.kTA T.bTA
  have GEN : FnOk P w K mg base CX0 3 fEN dEN ["feed", "most"] (spEn K) := ok_en T.FEN GTA T.gTA T.kTA T.bTA GIV T.gIV T.kIV T.bIV GPI T.gPI T.kPI T.bPI T.range
  have GLN : FnOk P w K mg base CX0 1 fLN dLN ["word"] spLN := ok_LN T.FLN T.len T.int T.str T.abs
  have GDU : FnOk P w K mg base CX0 2 fDU dDU ["text"] spDU := ok_DU T.FDU GLN T.gLN T.kLN T.bLN T.len T.enumerate
  have GEI : FnOk P w K mg base CX0 1 fEI dEI ["self", "row"] (XS.spInit C "row") := XS.fn_init T.FEI T.sK T.sC rfl (NdefX.nscope_by (by decide +kernel)) rfl rfl (by decide) (by decide) rfl rfl T.xf.2 (fun _ => rfl) (fun _ => rfl)
  have GPE : FnOk P w K mg base (CX P w) 7 fPA dPA ["cls", "text"] (spPE CT_ C) := ok_PE T.FPA GEO T.gEO T.kEO T.bEO T.mkT GUI T.bUI T.eC T.gE GEI T.bEI
  have GTO : FnOk P w K mg base CX0 8 fTO dTO ["text"] spTO := ok_TO T.FTO T.gCT_ T.insEQ T.rd T.cm GPE T.bPA T.fnUS T.iUS GUS T.bUS T.gE T.gW T.exm T.xf T.ec T.kv T.isinstance T.str T.ValueError
  have GPS : FnOk P w K mg base CX0 2 fPI dPI ["feed", "some"] spPickS := ok_pickS T.FPI T.FTA T.gTA T.bTA T.len
  have GCH : FnOk P w K mg base CX0 3 fCH dCH ["feed", "text"] spCH := ok_CH T.FCH GTA T.gTA T.kTA T.bTA GPI T.gPI T.kPI T.bPI GPS T.len
  have GCH := GCH.mono (show 3 ≤ 8 by decide)
  clear GEI GPE GPS
  have GFE := GFE.mono (show 1 ≤ 8 by decide)
  have GTA := GTA.mono (show 1 ≤ 8 by decide)
  have GPI := GPI.mono (show 2 ≤ 8 by decide)
  have GEN := GEN.mono (show 3 ≤ 8 by decide)
  have GDU := GDU.mono (show 2 ≤ 8 by decide)
  refine KW.kept_of F X5L.scLaw len_law (fun cdv A outer s H vs Q E hgA hr h => ?_)
  · obtain ⟨a, ns, rfl, hS, hlen, q⟩ := h
    refine ⟨_, (pss_cons (ps_set (i := 1) X5L.scLaw.nd rfl (.inl rfl) (pe_op op_add_str pe_str (pe_op GRS.op_repS pe_str pe_int)))
      (pss_cons (ps_for PassesOwn.never rfl (pi_range1 rfl T.range (pa_cons (pe_callB (call_max2 rfl) (by rfl) T.max (by decide +kernel) (pa_cons pe_int (pa_cons (pe_callB (call_min2 rfl) (by rfl) T.min (by decide +kernel) (pa_cons pe_int (pa_cons (pe_callB call_len_seq (by rfl) T.len PySem.boot_len (pa_cons (pv 0) pa_nil)) pa_nil))) pa_nil))) pa_nil)) (pg_name (i := 2) X5L.scLaw.nd rfl (.inl rfl))
      (pss_cons (ps_set (i := 3) X5L.scLaw.nd rfl (.inl rfl) (pe_call GFE hr (by rfl) T.gFE T.kFE T.bFE .nil pass0 (pa_cons (pv 0) (pa_cons (pv 2) pa_nil))))
      (pss_cons (ps_set (i := 4) X5L.scLaw.nd rfl (.inl rfl) (pe_lst (pa_cons pe_str (pa_cons pe_str (pa_cons pe_str (pa_cons pe_str (pa_cons pe_str (pa_cons pe_str (pa_cons pe_str (pa_cons pe_str pa_nil))))))))))
      (pss_cons (ps_set (i := 4) X5L.scLaw.nd rfl (.inl rfl) (pe_op op_cat (pv 4) (pe_lst (pa_cons pe_str (pa_cons pe_str pa_nil)))))
      (pss_cons (ps_set (i := 4) X5L.scLaw.nd rfl (.inl rfl) (pe_op op_cat (pv 4) (pe_lst (pa_cons (pe_op op_add_str (pe_op op_add_str (pe_op op_add_str (pe_op op_add_str pe_str (pv 1)) pe_str) (pv 1)) pe_str) (pa_cons (pe_op op_add_str (pe_op op_add_str pe_str (pv 1)) pe_str) (pa_cons pe_str (pa_cons pe_str pa_nil)))))))
      (pss_cons (ps_set (i := 4) X5L.scLaw.nd rfl (.inl rfl) (pe_op op_cat (pv 4) (pe_lst (pa_cons (pe_op op_add_str (pe_op op_add_str pe_str (pe_op GRS.op_repS pe_str pe_int)) pe_str) (pa_cons (pe_op op_add_str pe_str (pe_op GRS.op_repS pe_str pe_int)) pa_nil)))))
      (pss_cons (ps_for PassesOwn.never rfl (pi_range1 rfl T.range (pa_cons pe_int pa_nil)) (pg_name (i := 5) X5L.scLaw.nd rfl (.inl rfl))
      (pss_cons (ps_set (i := 6) X5L.scLaw.nd rfl (.inl rfl) (pe_call GEN hr (by rfl) T.gEN T.kEN T.bEN .nil pass0 (pa_cons (pv 3) (pa_cons pe_int pa_nil))))
      (pss_cons (ps_set (i := 7) X5L.scLaw.nd rfl (.inl rfl) (pe_join pe_str (pe_lc (own := [("entry", 9)]) (g := gName 9) (tt := tYes) (te := teO K) rfl X5L.scLaw.nd (pi_list (pv 6)) (blkOk_by (own := [("entry", 9)]) (N := ["script", "far", "k", "feed", "texts", "turn", "entries", "text", "again", "entry", "number"]) (sc := defScope X5L.sLaw) (by decide +kernel)) (fun _ _ _ _ _ => (pg_name (i := 9) X5L.scLaw.nd rfl (Or.inl rfl) (Or.inr rfl))) (fun _ _ _ _ _ => pts_nil) (fun _ _ _ _ _ => (pe_join pe_str (pe_lc (own := [("number", 10)]) (g := gName 10) (tt := tYes) (te := teI) rfl scLaw.nd (pi_tup (pv 9)) (blkOk_by (own := [("number", 10)]) (by with_unfolding_all rfl)) (fun _ _ _ _ _ => (pg_name (i := 10) scLaw.nd rfl (Or.inl rfl) (Or.inr rfl))) (fun _ _ _ _ _ => pts_nil) (fun _ _ _ _ _ => (pe_callTy call_str_int (by rfl) T.str (by decide +kernel) (pa_cons (pv 10) pa_nil)))))))))
      (pss_cons (ps_for PassesOwn.never rfl (pi_range1 rfl T.range (pa_cons (pe_call GPI hr (by rfl) T.gPI T.kPI T.bPI .nil pass0 (pa_cons (pv 3) (pa_cons (pe_lst (pa_cons pe_int (pa_cons pe_int (pa_cons pe_int (pa_cons pe_int (pa_cons pe_int pa_nil)))))) pa_nil))) pa_nil)) (pg_name (i := 8) X5L.scLaw.nd rfl (.inl rfl))
      (pss_one (ps_set (i := 7) X5L.scLaw.nd rfl (.inl rfl) (pe_call GCH hr (by rfl) T.gCH T.kCH T.bCH .nil pass0 (pa_cons (pv 3) (pa_cons (pv 7) pa_nil))))))
      (pss_one (ps_expr (pe_bm PySem.F.plainAttrs_list PySem.F.slot_list_append PySem.F.type_list_append mt_append (pv 4) (pa_cons (pv 7) pa_nil))))))))
      (pss_one (ps_if (pt_cmpR (op_neD hr.units) (pe_lc (own := [("text", 7)]) (g := gName 7)  (te := tVar 7) rfl X5L.scLaw.nd (pi_list (pv 4)) (blkOk_by (own := [("text", 7)]) (N := ["script", "far", "k", "feed", "texts", "turn", "entries", "text", "again", "entry", "number"]) (sc := defScope X5L.sLaw) (by decide +kernel)) (fun _ _ _ _ _ => (pg_name (i := 7) X5L.scLaw.nd rfl (Or.inl rfl) (Or.inr rfl))) (fun _ _ _ _ _ => pts_one (pt_cmpR op_ne (pe_callB GRS.cr_reprT (by rfl) T.repr (by decide +kernel) (pa_cons (pe_call GTO hr (by rfl) T.gTO T.kTO T.bTO .nil pass0 (pa_cons (pv 7) pa_nil)) pa_nil)) (pe_callB GRS.cr_reprT (by rfl) T.repr (by decide +kernel) (pa_cons (pe_call GDU hr (by rfl) T.gDU T.kDU T.bDU .nil pass0 (pa_cons (pv 7) pa_nil)) pa_nil)) (nomark _))) (fun _ _ _ _ _ => (pv 7))) (pe_lst pa_nil) (nomark _)) (pss_one (ps_ret pe_bl)) pss_nil)))))))))
      (pss_one (ps_ret pe_bl)))), ?_⟩
    have b0 : Bn 1 ("0" : Str) := bn_of (by decide +kernel)
    have b1 : Bn 1 ("1" : Str) := bn_of (by decide +kernel)
    have b9 : Bn 1 ("9" : Str) := bn_of (by decide +kernel)
    have bm : Bn 1 ("-" : Str) := bn_of (by decide +kernel)
    have bb : Bn 1 (" " : Str) := bn_of (by decide +kernel)
    have bb0 : Bn 2 (" 0" : Str) := bn_of (by decide +kernel)
    have b0b : Bn 2 ("0 " : Str) := bn_of (by decide +kernel)
    have b01 : Bn 3 ("0 1" : Str) := bn_of (by decide +kernel)
    have bb1 : Bn 2 (" 1" : Str) := bn_of (by decide +kernel)
    have b01b : Bn 4 ("0 1 " : Str) := bn_of (by decide +kernel)
    have br9 : Bn 9 (GRS.repS "0" (9 : Int).toNat) := bn_rep b0
    have br5 : Bn 5000 (GRS.repS "9" (5000 : Int).toNat) := bn_rep b9
    refine ⟨"0", 9, rfl, rfl, by decide, by decide, by decide +kernel, by decide +kernel, "1", _, rfl, rfl, b1.sl br9, ?_⟩
    have hfar : Bn 10 (("1" : Str) ++ GRS.repS "0" (9 : Int).toNat) := b1.app br9
    obtain ⟨FAR, eFAR⟩ : ∃ F : Str, F = ("1" : Str) ++ GRS.repS "0" (9 : Int).toNat := ⟨_, rfl⟩
    rw [← eFAR] at hfar ⊢
    clear eFAR
    -- for k
    refine ⟨.ref a, rfl, a, ns.map V.int, rfl, .inl hS, 4, ((ns.map V.int).length : Int), rfl, 2, _, rfl, _, rfl, ?_⟩
    generalize hm : (if (if ((ns.map V.int).length : Int) < 4 then ((ns.map V.int).length : Int) else 4) > 2 then (if ((ns.map V.int).length : Int) < 4 then ((ns.map V.int).length : Int) else 4) else 2) = m
    have m0 : 0 ≤ m ∧ m ≤ 4 := by subst hm; split <;> split <;> omega
    refine ⟨by omega, by omega, for_range (lo := 0) (n := m.toNat) (fun i σ H' => Same H H' ∧ ∃ r2 r3 r4 r5 r6 r7 r8 r9 r10 : Option V, σ = [some (.ref a), some (.str FAR), r2, r3, r4, r5, r6, r7, r8, r9, r10]) ⟨Same.refl H, _, _, _, _, _, _, _, _, _, rfl⟩ ?_ (fun σ H' _ => q H')⟩
    rintro i σ H' hi ⟨sm, r2, r3, r4, r5, r6, r7, r8, r9, r10, rfl⟩
    refine ⟨.ref a, rfl, .int (0 + (i : Int)), rfl, a, ns, 0 + (i : Int), rfl, sm.seq hS, by omega, by omega, fun H1 f s1 nf fe => ?_⟩
    have hf0 : H f = none := sm.free nf
    have sm1 := sm.trans s1
    clear sm s1 nf
    -- texts
    refine ⟨by show 8 ≤ sizeLine; decide, fun p1 np1 => ?_⟩
    have u1 := same_new (o := .lst ((["", "\n", " ", "0 1 1\n", "\n0 1 1", "0 1 1000000", "0 1 1000001", "0 1 1\n0 1 1"] : List Str).map V.str)) np1
    have e1 := upd_same (H := H1) (a := p1) (o := .lst ((["", "\n", " ", "0 1 1\n", "\n0 1 1", "0 1 1000000", "0 1 1000001", "0 1 1\n0 1 1"] : List Str).map V.str))
    refine ⟨.ref p1, rfl, by show 2 ≤ sizeLine; decide, fun p2 np2 => ?_⟩
    have u2 := same_new (o := .lst ((["0 1_0 1", "0 1 1_0"] : List Str).map V.str)) np2
    refine ⟨p1, p2, _, _, rfl, rfl, u2 _ _ e1, upd_same, by show 8 + 2 ≤ sizeLine; decide, fun p3 np3 => ?_⟩
    have u3 := same_new (o := .lst ((["", "\n", " ", "0 1 1\n", "\n0 1 1", "0 1 1000000", "0 1 1000001", "0 1 1\n0 1 1"] : List Str).map V.str ++ (["0 1_0 1", "0 1 1_0"] : List Str).map V.str)) np3
    refine ⟨.ref p3, rfl, .str FAR, rfl, "-", FAR, rfl, rfl, bm.sl hfar, _, " ", rfl, rfl, (bm.app hfar).sl bb, .str FAR, rfl, _, FAR, rfl, rfl, ((bm.app hfar).app bb).sl hfar, _, " 0", rfl, rfl, (((bm.app hfar).app bb).app hfar).sl bb0, .str FAR, rfl, "0 ", FAR, rfl, rfl, b0b.sl hfar, _, "0 1", rfl, rfl, (b0b.app hfar).sl b01, by show 4 ≤ sizeLine; decide, fun p4 np4 => ?_⟩
    have k1 := (((bm.app hfar).app bb).app hfar).app bb0
    have k2 := (b0b.app hfar).app b01
    have u4 := same_new (o := .lst (([(((("-" : Str) ++ FAR) ++ " ") ++ FAR) ++ " 0", (("0 " : Str) ++ FAR) ++ "0 1", "0 1000000001 1", "-1000000001 0 1"] : List Str).map V.str)) np4
    refine ⟨p3, p4, _, _, rfl, rfl, u4 _ _ upd_same, upd_same, by show 10 + 4 ≤ sizeLine; decide, fun p5 np5 => ?_⟩
    have u5 := same_new (o := .lst (((["", "\n", " ", "0 1 1\n", "\n0 1 1", "0 1 1000000", "0 1 1000001", "0 1 1\n0 1 1"] : List Str).map V.str ++ (["0 1_0 1", "0 1 1_0"] : List Str).map V.str) ++ ([(((("-" : Str) ++ FAR) ++ " ") ++ FAR) ++ " 0", (("0 " : Str) ++ FAR) ++ "0 1", "0 1000000001 1", "-1000000001 0 1"] : List Str).map V.str)) np5
    refine ⟨.ref p5, rfl, "9", 5000, rfl, rfl, by decide, by decide, by decide +kernel, by decide +kernel, "0 ", _, rfl, rfl, b0b.sl br5, _, " 1", rfl, rfl, (b0b.app br5).sl bb1, "9", 5000, rfl, rfl, by decide, by decide, by decide +kernel, by decide +kernel, "0 1 ", _, rfl, rfl, b01b.sl br5, by show 2 ≤ sizeLine; decide, fun p6 np6 => ?_⟩
    have k3 := (b0b.app br5).app bb1
    have k4 := b01b.app br5
    have u6 := same_new (o := .lst (([(("0 " : Str) ++ GRS.repS "9" (5000 : Int).toNat) ++ " 1", ("0 1 " : Str) ++ GRS.repS "9" (5000 : Int).toNat] : List Str).map V.str)) np6
    refine ⟨p5, p6, _, _, rfl, rfl, u6 _ _ upd_same, upd_same, by show 14 + 2 ≤ sizeLine; decide, fun md nmd => ?_⟩
    have okT : OkT ((((["", "\n", " ", "0 1 1\n", "\n0 1 1", "0 1 1000000", "0 1 1000001", "0 1 1\n0 1 1"] : List Str) ++ (["0 1_0 1", "0 1 1_0"] : List Str)) ++ [(((("-" : Str) ++ FAR) ++ " ") ++ FAR) ++ " 0", (("0 " : Str) ++ FAR) ++ "0 1", "0 1000000001 1", "-1000000001 0 1"]) ++ [(("0 " : Str) ++ GRS.repS "9" (5000 : Int).toNat) ++ " 1", ("0 1 " : Str) ++ GRS.repS "9" (5000 : Int).toNat]) := by
      refine OkT.app (OkT.app (OkT.app (okt_of (by decide +kernel)) (okt_of (by decide +kernel))) fun t ht => ?_) fun t ht => ?_
      · simp only [List.mem_cons, List.not_mem_nil, or_false] at ht
        rcases ht with rfl | rfl | rfl | rfl
        · exact ⟨k1.1, Nat.le_trans k1.2 (by decide)⟩
        · exact ⟨k2.1, Nat.le_trans k2.2 (by decide)⟩
        · exact okt_of (ts := ["0 1000000001 1"]) (by decide +kernel) _ List.mem_cons_self
        · exact okt_of (ts := ["-1000000001 0 1"]) (by decide +kernel) _ List.mem_cons_self
      · simp only [List.mem_cons, List.not_mem_nil, or_false] at ht
        rcases ht with rfl | rfl
        · exact ⟨k3.1, Nat.le_trans k3.2 (by decide)⟩
        · exact ⟨k4.1, Nat.le_trans k4.2 (by decide)⟩
    have u7 := same_new (o := .lst ((((((["", "\n", " ", "0 1 1\n", "\n0 1 1", "0 1 1000000", "0 1 1000001", "0 1 1\n0 1 1"] : List Str) ++ (["0 1_0 1", "0 1 1_0"] : List Str)) ++ [(((("-" : Str) ++ FAR) ++ " ") ++ FAR) ++ " 0", (("0 " : Str) ++ FAR) ++ "0 1", "0 1000000001 1", "-1000000001 0 1"]) ++ [(("0 " : Str) ++ GRS.repS "9" (5000 : Int).toNat) ++ " 1", ("0 1 " : Str) ++ GRS.repS "9" (5000 : Int).toNat] : List Str)).map V.str)) nmd
    have hmdH : H md = none := sm1.free ((u1.trans (u2.trans (u3.trans (u4.trans (u5.trans u6))))).free nmd)
    have sU := u1.trans (u2.trans (u3.trans (u4.trans (u5.trans (u6.trans u7)))))
    have nmf : md ≠ f := (fe.same (u1.trans (u2.trans (u3.trans (u4.trans (u5.trans u6)))))).ne nmd
    refine ⟨20, rfl, by decide, by decide, for_range (lo := 0) (n := (20 : Int).toNat) (fun i σ Hz => Same H Hz ∧ FeedAt Hz f ∧ ∃ ts : List Str, Hz md = some (.lst (ts.map V.str)) ∧ ts.length = 16 + i ∧ OkT ts ∧ ∃ r2 r5 r6 r7 r8 r9 r10 : Option V, σ = [some (.ref a), some (.str FAR), r2, some (.ref f), some (.ref md), r5, r6, r7, r8, r9, r10]) ⟨sm1.trans sU, fe.same sU, _, upd_same, rfl, okT, _, _, _, _, _, _, _, rfl⟩ ?_ ?_⟩
    · clear u1 u2 u3 u4 u5 u6 u7 e1 okT k1 k2 k3 k4 sm1 fe sU
      rintro t σ H3 ht ⟨sm, fe, ts, emd, lts, okT, r2, r5, r6, r7, r8, r9, r10, rfl⟩
      have ht20 : t < 20 := ht
      refine ⟨.ref f, rfl, f, 12, rfl, by decide, by decide, fe, fun H4 c xs es c4 fe4 hc ncf nc tr gd bd le => ?_⟩
      have sm4 := Ch.old c4 hf0 sm
      have emd4 := c4 _ _ nmf emd
      have va : ∀ e ∈ es, Val e := fun e he => by
        have h1 := gd e he
        have h2 := bd e he
        exact ⟨by omega, by omega, h1.1, h1.2, h2.2.2⟩
      have sml := vsml va
      have ll := tr.length
      clear c4 fe emd sm
      -- text
      refine ⟨⟨_, rfl⟩, .ref c, rfl, c, rfl, ⟨_, SqL.of hc⟩, fun D nD => ?_⟩
      refine lc_list (K := K) (a := c) (xs := xs) (fun i Hz => Same H4 Hz ∧ Hz D = some (.lst (((es.take i).map NX.row).map V.str))) ⟨same_new nD, upd_same⟩ (fun i Hz _ z => SqL.of (z.1 _ _ hc)) ?_ ?_
      · rintro i y Hz hy ⟨sz, eD⟩
        obtain ⟨p, e, rfl, ee, hp⟩ := tr.get hy
        have hi := (List.getElem?_eq_some_iff.mp ee).1
        have me := List.mem_of_getElem? ee
        have hp2 := sz _ _ hp
        refine ⟨rfl, iteT (B := True) ⟨⟨_, rfl⟩, .ref p, rfl, p, rfl, ⟨_, SqT.of hp2⟩, fun D2 nD2 => ?_⟩⟩
        refine lc_tup (K := K) (a := p) (xs := [.int e.1, .int e.2.1, .int e.2.2]) (fun j Hw => Hw = upd Hz D2 (.lst (((NX.wds e).take j).map V.str))) rfl (fun j Hw _ z => by rw [z]; exact SqT.of ((same_new nD2) _ _ hp2)) ?_ ?_
        · rintro j z Hw hz rfl
          obtain ⟨n, rfl, hw, hn⟩ := ent_at hz
          have nb : n.natAbs < 2 ^ 39 := by
            rcases hn with rfl | rfl | rfl
            · exact (sml e me).1
            · exact (sml e me).2.1
            · exact (sml e me).2.2
          refine ⟨rfl, iteT (B := True) ⟨.int n, rfl, n, rfl, WN.ti_log nb, _, upd_same, ?_, ?_⟩⟩
          · rw [List.length_map, List.length_take]; exact Nat.lt_of_le_of_lt (show min j 3 ≤ 3000 by omega) (by decide)
          · rw [upd_upd, List.take_add_one, hw, List.map_append]; rfl
        rintro Hw rfl
        refine ⟨_, D2, NX.wds e, rfl, rfl, .inl (SqL.of upd_same), ?_, ?_⟩
        · have h2 : ((" " : Str)).length = 1 := by decide +kernel
          have l1 := WN.ti_len (sml e me).1
          have l2 := WN.ti_len (sml e me).2.1
          have l3 := WN.ti_len (sml e me).2.2
          rw [h2]
          show (NX.tI e.1).length + ((NX.tI e.2.1).length + ((NX.tI e.2.2).length + 0)) + 3 * 1 ≤ _
          have e1 : (NX.tI e.1).length = (WN.ti e.1).length := rfl
          have e2 : (NX.tI e.2.1).length = (WN.ti e.2.1).length := rfl
          have e3 : (NX.tI e.2.2).length = (WN.ti e.2.2).length := rfl
          omega
        · refine ⟨_, (same_new nD2) _ _ eD, ?_, same_again nD (sz.trans (same_new nD2)), ?_⟩
          · rw [List.length_map, List.length_map, List.length_take]; exact Nat.lt_of_le_of_lt (show _ ≤ 3000 by omega) (by decide)
          · rw [upd_same, List.take_add_one, ee, List.map_append, List.map_append]; rfl
      rintro H5 ⟨s5, eD⟩
      rw [ll, List.take_length] at eD
      have lrow : ∀ x ∈ es.map NX.row, x.length ≤ 41 := fun x hx => by
        obtain ⟨r, hr, e⟩ := List.mem_map.mp hx
        rw [← e]
        exact row_len (va r hr)
      refine ⟨_, D, es.map NX.row, rfl, rfl, .inl (SqL.of eD), ?_, ?_⟩
      · have h1 := WN.sum_le (B := 41) lrow
        rw [nl_len, List.length_map] at *
        omega
      have bT : Asc (NX.txt es) ∧ (NX.txt es).length ≤ 252 := by
        refine ⟨asc_join (fun c hc => by rw [NX.nlk, List.mem_singleton] at hc; rw [hc]; decide) fun u hu => ?_, ?_⟩
        · obtain ⟨r, hr, rfl⟩ := List.mem_map.mp hu
          intro c hc
          have := NX.row_signs hc
          omega
        · have := WN.join_len (sep := "\n") lrow
          rw [nl_len, List.length_map] at this
          show (Txt.join "\n" (es.map NX.row)).length ≤ _
          omega
      have sm5 := sm4.trans s5
      have fe5 := fe4.same s5
      have emd5 := s5 _ _ emd4
      clear s5 sm4 fe4 emd4 tr hc eD
      -- again
      refine ⟨.ref f, rfl, by show 5 ≤ sizeLine; decide, fun l nl => ?_⟩
      have sl := same_new (o := .lst [.int 0, .int 1, .int 1, .int 2, .int 3]) nl
      refine ⟨f, l, _, rfl, fe5.ne nl, SqL.of upd_same, by show 0 < 5; decide, by show 5 ≤ 1000; decide, fe5.same sl, fun H6 j v hv c6 fe6 => ?_⟩
      obtain ⟨n, rfl, hn⟩ : ∃ n : Nat, v = .int (n : Int) ∧ n ≤ 3 := by
        match j, hv with
        | 0, hv => exact ⟨0, (Option.some.inj hv).symm, by decide⟩
        | 1, hv => exact ⟨1, (Option.some.inj hv).symm, by decide⟩
        | 2, hv => exact ⟨1, (Option.some.inj hv).symm, by decide⟩
        | 3, hv => exact ⟨2, (Option.some.inj hv).symm, by decide⟩
        | 4, hv => exact ⟨3, (Option.some.inj hv).symm, by decide⟩
        | n + 5, hv => simp at hv
      have c56 : Ch f H5 H6 := (Ch.of_same sl).trans c6
      have sm6 := Ch.old c56 hf0 sm5
      have emd6 := c56 _ _ nmf emd5
      clear c6 c56 sl nl fe5 sm5 emd5
      refine ⟨(n : Int), rfl, by omega, by omega, for_range (lo := 0) (n := ((n : Int)).toNat) (fun i σ Hz => Ch f H6 Hz ∧ FeedAt Hz f ∧ ∃ x : Str, Asc x ∧ (i = 0 → x.length ≤ 252) ∧ (i = 1 → x.length ≤ 816) ∧ (i = 2 → x.length ≤ 2508) ∧ x.length ≤ 7584 ∧ ∃ r2 r5 r6 r8 r9 r10 : Option V, σ = [some (.ref a), some (.str FAR), r2, some (.ref f), some (.ref md), r5, r6, some (.str x), r8, r9, r10]) ⟨Ch.refl _ _, fe6, NX.txt es, bT.1, fun _ => bT.2, fun z => (by cases z), fun z => (by cases z), (by have := bT.2; omega), _, _, _, _, _, _, rfl⟩ ?_ ?_⟩
      · rintro i σ Hz hi ⟨cz, fz, x, ax, h0, h1, h2, h3, r2, r5, r6, r8, r9, r10, rfl⟩
        have hi3 : i < 3 := by omega
        have hx : x.length ≤ 2508 := by
          rcases (show i = 0 ∨ i = 1 ∨ i = 2 by omega) with k | k | k
          · have := h0 k; omega
          · have := h1 k; omega
          · exact h2 k
        refine ⟨.ref f, rfl, .str x, rfl, f, x, rfl, fz, by omega, ax, fun Hw y cw fw ly ay => ?_⟩
        refine ⟨cz.trans cw, fw, y, ay, fun z => absurd z (by omega), fun z => ?_, fun z => ?_, by omega, _, _, _, _, _, _, rfl⟩
        · have := h0 (by omega); omega
        · have := h1 (by omega); omega
      rintro σ H7 ⟨c7, fe7, x, ax, _, _, _, h3, r2, r5, r6, r8, r9, r10, rfl⟩
      have sm7 := Ch.old c7 hf0 sm6
      have emd7 := c7 _ _ nmf emd6
      refine ⟨.ref md, rfl, .inl ⟨rfl, _, SqL.of emd7⟩, .str x, rfl, md, _, _, rfl, rfl, emd7, by rw [List.length_map]; exact Nat.lt_of_le_of_lt (show ts.length ≤ 3000 by omega) (by decide), ?_⟩
      refine ⟨?_, fe7.upd nmf, ts ++ [x], ?_, by rw [List.length_append]; show ts.length + 1 = _; omega, OkT.app okT fun t ht => by rw [List.mem_singleton.mp ht]; exact ⟨ax, by omega⟩, _, _, _, _, _, _, _, rfl⟩
      · exact Ch.old (Ch.put (f := md)) hmdH sm7
      · rw [upd_same, List.map_append]; rfl
    clear u1 u2 u3 u4 u5 u6 u7 e1 okT k1 k2 k3 k4 sm1 fe sU
    rintro σ H3 ⟨sm, fe, ts, emd, lts, okT, r2, r5, r6, r7, r8, r9, r10, rfl⟩
    refine ⟨.ref md, rfl, md, rfl, ⟨_, SqL.of emd⟩, fun D nD => ?_⟩
    refine lc_list (K := K) (a := md) (xs := ts.map V.str) (fun i Hz => Same H3 Hz ∧ Hz D = some (.lst [])) ⟨same_new nD, upd_same⟩ (fun i Hz _ z => SqL.of (z.1 _ _ emd)) ?_ ?_
    · rintro i y Hz hy ⟨sz, eD⟩
      obtain ⟨x, hx, rfl⟩ := Z5K.strs_at hy
      obtain ⟨ax, lx⟩ := okT x (List.mem_of_getElem? hx)
      have hsh : (∃ z, tld x = .str z ∧ z.length ≤ 100000 ∧ ∀ c ∈ TL.tl z, c < 128) ∨ ∃ i : Int, tld x = .int i ∧ i.natAbs.log2 < 1920 := by
        cases k : fst0 (NY.ents x) with
        | none => exact .inl ⟨x, tld_ok k, by omega, ax⟩
        | some j => exact .inr ⟨(j : Int), by unfold tld; rw [k], fst0_log k lx⟩
      refine ⟨rfl, .str x, rfl, x, rfl, lx, fun H4 s4 => ⟨_, rfl, hsh, .str x, rfl, x, rfl, lx, ax, fun H5 s5 => ⟨_, rfl, hsh, rfl, _, rfl, ?_⟩⟩⟩
      rw [decide_eq_true rfl]
      exact iteF ⟨sz.trans (s4.trans s5), (s4.trans s5) _ _ eD⟩
    rintro H4 ⟨s4, eD⟩
    refine ⟨Nat.zero_le _, fun z nz => ?_⟩
    have sz := same_new (o := .lst []) nz
    refine ⟨.list [], .list [], .lst (SqL.of (sz _ _ eD)) .nil, .lst (SqL.of upd_same) .nil, shaped_lst [], shaped_lst [], _, rfl, ?_⟩
    exact iteF ⟨sm.trans (s4.trans sz), _, _, _, _, _, _, _, _, _, rfl⟩
end
end X5L

set_option pp.maxSteps 300
namespace X5E0
open PySem PySem.Spec PyProof.Rows L2 KA KD PH PM RM K52b XU GML XE X5P X5R X5C
open XT hiding pairs_get
open NX (Val)
open Z5K hiding spNM strs_at sEQ
open X5L
theorem all_mk {l : PySem.W.OpenLaw} {w : World} {K : PySem.W.Frag} {h : Heap} {mg : Str → Option Value} {fa fNU fRD fNL fRO fEO fFE fTA fPI fIV fEN fLN fDU fTO fCH CT_ fUI pP fPA fEQ fUS fLAW : Addr} {C CW fEI ccE cdaE NE : Addr} {odE anE cldE cddE ddE : Option Addr} {slE cslE ccsE : Array (Option Value)} {vsE : Array Value} {kVE dcE pmE ctE ocE clE cclE : Value} {fileE : Str} {tfE : Tok} {nmE qE : Str} {bsE subE : List Value} {snE : List Str} {abE : Bool} {colE : Option Bool} {m0E m1E m2E m3E m5E : Option Value} (X : K.In h) (G : h.Ns mainGlobals mg) (hfa : mg "law" = some (.ref fa))
    {odNU anNU odRD anRD odNL anNL odRO anRO odEO anEO odFE anFE odTA anTA odPI anPI odIV anIV odEN anEN odLN anLN odDU anDU odTO anTO odCH anCH odUI anUI odPA anPA odEQ anEQ odUS anUS odLAW anLAW : Option Addr} {slNU slRD slNL slRO slEO slFE slTA slPI slIV slEN slLN slDU slTO slCH slUI slPA slEQ slUS slLAW : Array (Option Value)} {ocNU dcNU pmNU cdNU ctNU kVNU ocRD dcRD pmRD cdRD ctRD kVRD ocNL dcNL pmNL cdNL ctNL kVNL ocRO dcRO pmRO cdRO ctRO kVRO ocEO dcEO pmEO cdEO ctEO kVEO ocFE dcFE pmFE cdFE ctFE kVFE ocTA dcTA pmTA cdTA ctTA kVTA ocPI dcPI pmPI cdPI ctPI kVPI ocIV dcIV pmIV cdIV ctIV kVIV ocEN dcEN pmEN cdEN ctEN kVEN ocLN dcLN pmLN cdLN ctLN kVLN ocDU dcDU pmDU cdDU ctDU kVDU ocTO dcTO pmTO cdTO ctTO kVTO ocCH dcCH pmCH cdCH ctCH kVCH ocUI dcUI pmUI cdUI ctUI kVUI ocPA dcPA pmPA cdPA ctPA kVPA ocEQ dcEQ pmEQ cdEQ ctEQ kVEQ ocUS dcUS pmUS cdUS ctUS kVUS vgLIM vgLON vgGRE ocLAW dcLAW pmLAW cdLAW ctLAW kVLAW : Value} {rPA : List Value}
    (aNU : PySem.W.nsIn K mainGlobals "is_number" = some (some (.ref fNU)))
    (lNU : K.lookup fNU = some ⟨ocNU, odNU, .func (PySem.W.fnOf "is_number" "is_number" (defArgs Z5K.sNU) (defBody Z5K.sNU) (defScope Z5K.sNU) .none kVNU dcNU pmNU anNU cdNU ctNU), slNU⟩)
    (cNU : PySem.W.codeIn K cdNU "is_number" = true)
    (kNU : PySem.W.keepIn K (.ref fNU) = true)
    (aRD : PySem.W.nsIn K mainGlobals "is_reading" = some (some (.ref fRD)))
    (lRD : K.lookup fRD = some ⟨ocRD, odRD, .func (PySem.W.fnOf "is_reading" "is_reading" (defArgs Z5K.sRD) (defBody Z5K.sRD) (defScope Z5K.sRD) .none kVRD dcRD pmRD anRD cdRD ctRD), slRD⟩)
    (cRD : PySem.W.codeIn K cdRD "is_reading" = true)
    (kRD : PySem.W.keepIn K (.ref fRD) = true)
    (aNL : PySem.W.nsIn K mainGlobals "is_numeral" = some (some (.ref fNL)))
    (lNL : K.lookup fNL = some ⟨ocNL, odNL, .func (PySem.W.fnOf "is_numeral" "is_numeral" (defArgs Z5K.sNM) (defBody Z5K.sNM) (defScope Z5K.sNM) .none kVNL dcNL pmNL anNL cdNL ctNL), slNL⟩)
    (cNL : PySem.W.codeIn K cdNL "is_numeral" = true)
    (kNL : PySem.W.keepIn K (.ref fNL) = true)
    (aRO : PySem.W.nsIn K mainGlobals "reading_of" = some (some (.ref fRO)))
    (lRO : K.lookup fRO = some ⟨ocRO, odRO, .func (PySem.W.fnOf "reading_of" "reading_of" (defArgs Z5K.sRO) (defBody Z5K.sRO) (defScope Z5K.sRO) .none kVRO dcRO pmRO anRO cdRO ctRO), slRO⟩)
    (cRO : PySem.W.codeIn K cdRO "reading_of" = true)
    (kRO : PySem.W.keepIn K (.ref fRO) = true)
    (aEO : PySem.W.nsIn K mainGlobals "entry_of" = some (some (.ref fEO)))
    (lEO : K.lookup fEO = some ⟨ocEO, odEO, .func (PySem.W.fnOf "entry_of" "entry_of" (defArgs Z5K.sEO) (defBody Z5K.sEO) (defScope Z5K.sEO) .none kVEO dcEO pmEO anEO cdEO ctEO), slEO⟩)
    (cEO : PySem.W.codeIn K cdEO "entry_of" = true)
    (kEO : PySem.W.keepIn K (.ref fEO) = true)
    (aFE : PySem.W.nsIn K mainGlobals "_law_feed" = some (some (.ref fFE)))
    (lFE : K.lookup fFE = some ⟨ocFE, odFE, .func (PySem.W.fnOf "_law_feed" "_law_feed" (defArgs sFeed) (defBody sFeed) (defScope sFeed) .none kVFE dcFE pmFE anFE cdFE ctFE), slFE⟩)
    (cFE : PySem.W.codeIn K cdFE "_law_feed" = true)
    (kFE : PySem.W.keepIn K (.ref fFE) = true)
    (aTA : PySem.W.nsIn K mainGlobals "_law_take" = some (some (.ref fTA)))
    (lTA : K.lookup fTA = some ⟨ocTA, odTA, .func (PySem.W.fnOf "_law_take" "_law_take" (defArgs sTake) (defBody sTake) (defScope sTake) .none kVTA dcTA pmTA anTA cdTA ctTA), slTA⟩)
    (cTA : PySem.W.codeIn K cdTA "_law_take" = true)
    (kTA : PySem.W.keepIn K (.ref fTA) = true)
    (aPI : PySem.W.nsIn K mainGlobals "_law_pick" = some (some (.ref fPI)))
    (lPI : K.lookup fPI = some ⟨ocPI, odPI, .func (PySem.W.fnOf "_law_pick" "_law_pick" (defArgs sPick) (defBody sPick) (defScope sPick) .none kVPI dcPI pmPI anPI cdPI ctPI), slPI⟩)
    (cPI : PySem.W.codeIn K cdPI "_law_pick" = true)
    (kPI : PySem.W.keepIn K (.ref fPI) = true)
    (aIV : PySem.W.nsIn K mainGlobals "_law_interval" = some (some (.ref fIV)))
    (lIV : K.lookup fIV = some ⟨ocIV, odIV, .func (PySem.W.fnOf "_law_interval" "_law_interval" (defArgs sIv) (defBody sIv) (defScope sIv) .none kVIV dcIV pmIV anIV cdIV ctIV), slIV⟩)
    (cIV : PySem.W.codeIn K cdIV "_law_interval" = true)
    (kIV : PySem.W.keepIn K (.ref fIV) = true)
    (aEN : PySem.W.nsIn K mainGlobals "_law_entries" = some (some (.ref fEN)))
    (lEN : K.lookup fEN = some ⟨ocEN, odEN, .func (PySem.W.fnOf "_law_entries" "_law_entries" (defArgs sEn) (defBody sEn) (defScope sEn) .none kVEN dcEN pmEN anEN cdEN ctEN), slEN⟩)
    (cEN : PySem.W.codeIn K cdEN "_law_entries" = true)
    (kEN : PySem.W.keepIn K (.ref fEN) = true)
    (aLN : PySem.W.nsIn K mainGlobals "_law_number" = some (some (.ref fLN)))
    (lLN : K.lookup fLN = some ⟨ocLN, odLN, .func (PySem.W.fnOf "_law_number" "_law_number" (defArgs X5R.sLN) (defBody X5R.sLN) (defScope X5R.sLN) .none kVLN dcLN pmLN anLN cdLN ctLN), slLN⟩)
    (cLN : PySem.W.codeIn K cdLN "_law_number" = true)
    (kLN : PySem.W.keepIn K (.ref fLN) = true)
    (aDU : PySem.W.nsIn K mainGlobals "_law_due" = some (some (.ref fDU)))
    (lDU : K.lookup fDU = some ⟨ocDU, odDU, .func (PySem.W.fnOf "_law_due" "_law_due" (defArgs X5R.sDU) (defBody X5R.sDU) (defScope X5R.sDU) .none kVDU dcDU pmDU anDU cdDU ctDU), slDU⟩)
    (cDU : PySem.W.codeIn K cdDU "_law_due" = true)
    (kDU : PySem.W.keepIn K (.ref fDU) = true)
    (aTO : PySem.W.nsIn K mainGlobals "_law_told" = some (some (.ref fTO)))
    (lTO : K.lookup fTO = some ⟨ocTO, odTO, .func (PySem.W.fnOf "_law_told" "_law_told" (defArgs X5R.sTO) (defBody X5R.sTO) (defScope X5R.sTO) .none kVTO dcTO pmTO anTO cdTO ctTO), slTO⟩)
    (cTO : PySem.W.codeIn K cdTO "_law_told" = true)
    (kTO : PySem.W.keepIn K (.ref fTO) = true)
    (aCH : PySem.W.nsIn K mainGlobals "_law_changed" = some (some (.ref fCH)))
    (lCH : K.lookup fCH = some ⟨ocCH, odCH, .func (PySem.W.fnOf "_law_changed" "_law_changed" (defArgs X5C.sCH) (defBody X5C.sCH) (defScope X5C.sCH) .none kVCH dcCH pmCH anCH cdCH ctCH), slCH⟩)
    (cCH : PySem.W.codeIn K cdCH "_law_changed" = true)
    (kCH : PySem.W.keepIn K (.ref fCH) = true)
    (aC : PySem.W.nsIn K mainGlobals "Table" = some (some (.ref CT_)))
    (pg : PySem.W.plainGet K CT_ Str.empty = true)
    (hd : PySem.W.hasDictIn K CT_ = true)
    (po : PySem.W.plainOver K CT_ = true)
    (sa : PySem.W.findIn K (.ref CT_) "__setattr__" = some (some (.builtin "object.__setattr__")))
    (na0 : PySem.W.findIn K (.ref CT_) "entries" = some none)
    (mk : PySem.W.makesIn K CT_ = true)
    (kc : PySem.W.keepIn K (.ref CT_) = true)
    (aI : PySem.W.findIn K (.ref CT_) "__init__" = some (some (.ref fUI)))
    (iI : PySem.W.isFn K (.ref fUI) = true)
    (lUI : K.lookup fUI = some ⟨ocUI, odUI, .func (PySem.W.fnOf "__init__" "Table.__init__" (defArgs sTI) (defBody sTI) (defScope sTI) .none kVUI dcUI pmUI anUI cdUI ctUI), slUI⟩)
    (cUI : PySem.W.codeIn K cdUI "Table.__init__" = true)
    (kUI : PySem.W.keepIn K (.ref fUI) = true)
    (rdPA : PySem.W.readsIn K CT_ (.type "type") = true)
    (gaPA : PySem.W.specialIn K (.ref CT_) "__getattribute__" = some (some (.builtin "type.__getattribute__")))
    (aPA : PySem.W.findCls K (.ref CT_) (.type "type") "parse" = some (.get (.builtin "classmethod.__get__") (.ref pP) .none (.ref CT_)))
    (rcPA : PySem.W.recIn K pP "classmethod" = some (.ref fPA :: rPA))
    (fiPA : PySem.W.fnIn K fPA = true)
    (lPA : K.lookup fPA = some ⟨ocPA, odPA, .func (PySem.W.fnOf "parse" "Table.parse" (defArgs Z5K.sPA) (defBody Z5K.sPA) (defScope Z5K.sPA) .none kVPA dcPA pmPA anPA cdPA ctPA), slPA⟩)
    (cPA : PySem.W.codeIn K cdPA "Table.parse" = true)
    (kPA : PySem.W.keepIn K (.ref fPA) = true)
    (ihaEQ : PySem.W.findIn K (.ref CT_) "__class__" = some (some (.builtin "object.__class__")))
    (ihnEQ : PySem.W.specialIn K (.builtin "object.__class__") "__get__" = some (some (.builtin "getset_descriptor.__get__")))
    (ihtEQ : PySem.W.takesIn K (.builtin "object.__class__") = some true)
    (ihmEQ : PySem.W.mroIn K CT_ (.type "object") = some true)
    (aEQ : PySem.W.findIn K (.ref CT_) "__eq__" = some (some (.ref fEQ)))
    (iEQ : PySem.W.isFn K (.ref fEQ) = true)
    (lEQ : K.lookup fEQ = some ⟨ocEQ, odEQ, .func (PySem.W.fnOf "__eq__" "Table.__eq__" (defArgs Z5K.sEQ) (defBody Z5K.sEQ) (defScope Z5K.sEQ) .none kVEQ dcEQ pmEQ anEQ cdEQ ctEQ), slEQ⟩)
    (cEQ : PySem.W.codeIn K cdEQ "Table.__eq__" = true)
    (kEQ : PySem.W.keepIn K (.ref fEQ) = true)
    (aUS : PySem.W.findIn K (.ref CT_) "__str__" = some (some (.ref fUS)))
    (iUS : PySem.W.isFn K (.ref fUS) = true)
    (lUS : K.lookup fUS = some ⟨ocUS, odUS, .func (PySem.W.fnOf "__str__" "Table.__str__" (defArgs H8T.sTS) (defBody H8T.sTS) (defScope H8T.sTS) .none kVUS dcUS pmUS anUS cdUS ctUS), slUS⟩)
    (cUS : PySem.W.codeIn K cdUS "Table.__str__" = true)
    (kUS : PySem.W.keepIn K (.ref fUS) = true)
    (agLIM : PySem.W.nsIn K mainGlobals "LIMIT" = some (some vgLIM))
    (rgLIM : RelV (.int 1000000000) vgLIM)
    (agLON : PySem.W.nsIn K mainGlobals "LONGEST" = some (some vgLON))
    (rgLON : RelV (.int 11) vgLON)
    (agGRE : PySem.W.nsIn K mainGlobals "GREATEST" = some (some vgGRE))
    (rgGRE : RelV (.int 1000000) vgGRE)
    (z1 : PySem.W.nsIn K mainGlobals "len" = some none)
    (z2 : PySem.W.nsIn K mainGlobals "max" = some none)
    (z3 : PySem.W.nsIn K mainGlobals "min" = some none)
    (z4 : PySem.W.nsIn K mainGlobals "abs" = some none)
    (z5 : PySem.W.nsIn K mainGlobals "range" = some none)
    (z6 : PySem.W.nsIn K mainGlobals "tuple" = some none)
    (z7 : PySem.W.nsIn K mainGlobals "int" = some none)
    (z8 : PySem.W.nsIn K mainGlobals "enumerate" = some none)
    (z9 : PySem.W.nsIn K mainGlobals "isinstance" = some none)
    (z10 : PySem.W.nsIn K mainGlobals "bool" = some none)
    (z11 : PySem.W.nsIn K mainGlobals "repr" = some none)
    (z12 : PySem.W.nsIn K mainGlobals "str" = some none)
    (z13 : PySem.W.nsIn K mainGlobals "ValueError" = some none)
    (aCi : PySem.W.nsIn K mainGlobals "InvalidText" = some (some (.ref C)))
    (aW : PySem.W.nsIn K mainGlobals "WearError" = some (some (.ref CW)))
    (xL : K.lookup C = some (excClassObj nmE qE C NE bsE [.ref CW, .type "ValueError", .type "Exception", .type "BaseException", .type "object"] true snE subE abE colE ddE m0E m1E m2E m3E m5E "ValueError.__new__"))
    (saE : PySem.W.findIn K (.ref C) "__setattr__" = some (some (.builtin "object.__setattr__")))
    (exE : PySem.W.subIn K (.ref C) (.type "BaseException") = some true)
    (tyE : PySem.W.typeIn K (.ref C) = some (.type "type"))
    (kE : PySem.W.keepIn K (.ref C) = true)
    (iE : PySem.W.findIn K (.ref C) "__init__" = some (some (.ref fEI)))
    (tIE : PySem.W.typeIn K (.ref fEI) = some (.type "function"))
    (lEI : K.lookup fEI = some ⟨ocE, odE, .func (PySem.W.fnX "__init__" "InvalidText.__init__" (defArgs X5L.sEI) (defBody X5L.sEI) (defScope X5L.sEI) [("__class__", ccE)] .none kVE dcE pmE anE (.ref cdaE) ctE), slE⟩)
    (cEI : PySem.W.codeIn K (.ref cdaE) "InvalidText.__init__" = true)
    (lcc : K.lookup ccE = some ⟨clE, cldE, .cell (some (.ref C)), cslE⟩)
    (lcd : K.lookup cdaE = some ⟨cclE, cddE, .fields vsE, ccsE⟩)
    (hv2 : vsE[2]? = some (.str fileE tfE))
    (hfl : (l.prog.main.file == fileE) = true)
    (top : (l.prog.main.scope.names.lookup ("super" : Str)).isSome = false)
    (zsup : PySem.W.nsIn K mainGlobals "super" = some none)
    (anyE : PySem.W.nsIn K cStatics "thirdparty.any" = some none)
    (mroE : PySem.W.mroIn K C (.ref C) = some true)
    (supE : PySem.W.ks_superIn K C C "__init__" = some (some (.builtin "ValueError.__init__")))
    (sbE : PySem.W.subIn K (.ref C) (.type "ValueError") = some true)
    (gaE : PySem.W.findIn K (.ref C) "__getattribute__" = some (some (.builtin "BaseException.__getattribute__")))
    (ggE : PySem.W.findIn K (.ref C) "__getattr__" = some none)
    (hdE : PySem.W.hasDictIn K C = true)
    (noE : PySem.W.findIn K (.ref C) "row" = some none)
    (haE : PySem.W.findIn K (.ref C) "__class__" = some (some (.builtin "object.__class__")))
    (hnE : PySem.W.specialIn K (.builtin "object.__class__") "__get__" = some (some (.builtin "getset_descriptor.__get__")))
    (htE : PySem.W.takesIn K (.builtin "object.__class__") = some true)
    (hmE : PySem.W.mroIn K C (.type "object") = some true)
    (w1 : PySem.W.subIn K (.ref CW) (.type "BaseException") = some true)
    (w2 : PySem.W.hasDictIn K CW = true)
    (w3 : PySem.W.typeIn K (.ref CW) = some (.type "type"))
    (w4 : PySem.W.subIn K (.ref C) (.ref CW) = some true)
    (kvE : PySem.W.kitOne K (.ref C) (.type "ValueError") = some true)
    (aLAW : PySem.W.nsIn K mainGlobals "law" = some (some (.ref fLAW)))
    (lLAW : K.lookup fLAW = some ⟨ocLAW, odLAW, .func (PySem.W.fnOf "law" "law" (defArgs X5L.sLaw) (defBody X5L.sLaw) (defScope X5L.sLaw) .none kVLAW dcLAW pmLAW anLAW cdLAW ctLAW), slLAW⟩)
    (cLAW : PySem.W.codeIn K cdLAW "law" = true)
    (kLAW : PySem.W.keepIn K (.ref fLAW) = true) :
    ∃ fd : FuncData, (∀ (s : Shared) (v : Value), BindsTo s fd ⟨[v], []⟩ [("script", v)]) ∧ ∀ base : Heap, K.In base → base.Ns mainGlobals mg → KW.Kept l.prog w K mg base 9 fa fd ["script"] (X5L.spLaw K) := by
  have e := hfa.symm.trans (PySem.W.mg_of X G aLAW)
  cases e
  have FNU := fun_mk (st := Z5K.sNU) lNU cNU kNU
  have bNU := FNU.binds (ps := ["value"]) fun _ _ _ _ _ _ us hl => match us, hl with | [_], _ => rfl
  have FRD := fun_mk (st := Z5K.sRD) lRD cRD kRD
  have bRD := FRD.binds (ps := ["value"]) fun _ _ _ _ _ _ us hl => match us, hl with | [_], _ => rfl
  have FNL := fun_mk (st := Z5K.sNM) lNL cNL kNL
  have bNL := FNL.binds (ps := ["word"]) fun _ _ _ _ _ _ us hl => match us, hl with | [_], _ => rfl
  have FRO := fun_mk (st := Z5K.sRO) lRO cRO kRO
  have bRO := FRO.binds (ps := ["word"]) fun _ _ _ _ _ _ us hl => match us, hl with | [_], _ => rfl
  have FEO := fun_mk (st := Z5K.sEO) lEO cEO kEO
  have bEO := FEO.binds (ps := ["words"]) fun _ _ _ _ _ _ us hl => match us, hl with | [_], _ => rfl
  have FFE := fun_mk (st := sFeed) lFE cFE kFE
  have bFE := FFE.binds (ps := ["script", "k"]) fun _ _ _ _ _ _ us hl => match us, hl with | [_, _], _ => rfl
  have FTA := fun_mk (st := sTake) lTA cTA kTA
  have bTA := FTA.binds (ps := ["feed", "many"]) fun _ _ _ _ _ _ us hl => match us, hl with | [_, _], _ => rfl
  have FPI := fun_mk (st := sPick) lPI cPI kPI
  have bPI := FPI.binds (ps := ["feed", "some"]) fun _ _ _ _ _ _ us hl => match us, hl with | [_, _], _ => rfl
  have FIV := fun_mk (st := sIv) lIV cIV kIV
  have bIV := FIV.binds (ps := ["feed", "most"]) fun _ _ _ _ _ _ us hl => match us, hl with | [_, _], _ => rfl
  have FEN := fun_mk (st := sEn) lEN cEN kEN
  have bEN := FEN.binds (ps := ["feed", "most"]) fun _ _ _ _ _ _ us hl => match us, hl with | [_, _], _ => rfl
  have FLN := fun_mk (st := X5R.sLN) lLN cLN kLN
  have bLN := FLN.binds (ps := ["word"]) fun _ _ _ _ _ _ us hl => match us, hl with | [_], _ => rfl
  have FDU := fun_mk (st := X5R.sDU) lDU cDU kDU
  have bDU := FDU.binds (ps := ["text"]) fun _ _ _ _ _ _ us hl => match us, hl with | [_], _ => rfl
  have FTO := fun_mk (st := X5R.sTO) lTO cTO kTO
  have bTO := FTO.binds (ps := ["text"]) fun _ _ _ _ _ _ us hl => match us, hl with | [_], _ => rfl
  have FCH := fun_mk (st := X5C.sCH) lCH cCH kCH
  have bCH := FCH.binds (ps := ["feed", "text"]) fun _ _ _ _ _ _ us hl => match us, hl with | [_, _], _ => rfl
  have FUI := fun_mk (st := sTI) lUI cUI kUI
  have bUI := FUI.binds (ps := ["self", "entries"]) fun _ _ _ _ _ _ us hl => match us, hl with | [_, _], _ => rfl
  have FPA := fun_mk (st := Z5K.sPA) lPA cPA kPA
  have bPA := FPA.binds (ps := ["cls", "text"]) fun _ _ _ _ _ _ us hl => match us, hl with | [_, _], _ => rfl
  have FEQ := fun_mk (st := Z5K.sEQ) lEQ cEQ kEQ
  have bEQ := FEQ.binds (ps := ["self", "other"]) fun _ _ _ _ _ _ us hl => match us, hl with | [_, _], _ => rfl
  have FUS := fun_mk (st := H8T.sTS) lUS cUS kUS
  have bUS := FUS.binds (ps := ["self"]) fun _ _ _ _ _ _ us hl => match us, hl with | [_], _ => rfl
  have FLAW := fun_mk (st := X5L.sLaw) lLAW cLAW kLAW
  have oexE : OexC K C := ⟨⟨_, _, _, _, _, _, _, _, _, _, _, _, _, _, _, xL, by rfl⟩, saE, exE, tyE, kE⟩
  have FEI : XS.FunS K l.prog "__init__" "InvalidText.__init__" X5L.sEI C fEI (PySem.W.fnX "__init__" "InvalidText.__init__" (defArgs X5L.sEI) (defBody X5L.sEI) (defScope X5L.sEI) [("__class__", ccE)] .none kVE dcE pmE anE (.ref cdaE) ctE) := ⟨⟨_, _, _, _, _, _, _, _, _, _, _, _, _, _, _, _, _, _, _, _, rfl, lEI, cEI, lcc, lcd, hv2, hfl⟩⟩
  have bEI : Binds K (PySem.W.fnX "__init__" "InvalidText.__init__" (defArgs X5L.sEI) (defBody X5L.sEI) (defScope X5L.sEI) [("__class__", ccE)] .none kVE dcE pmE anE (.ref cdaE) ctE) ["self", "row"] [] := fun s us _ hl => match us, hl with | [_, _], _ => .of_eq rfl
  have T : X5L.Txt l.prog K mg fNU fRD fNL fRO fEO fFE fTA fPI fIV fEN fLN fDU fTO fCH CT_ fUI pP fPA fEQ fUS C CW fEI _ _ _ _ _ _ _ _ _ _ _ _ _ _ _ _ _ _ _ := ⟨FNU, PySem.W.mg_of X G aNU, kNU, bNU, FRD, PySem.W.mg_of X G aRD, kRD, bRD, FNL, PySem.W.mg_of X G aNL, kNL, bNL, FRO, PySem.W.mg_of X G aRO, kRO, bRO, FEO, PySem.W.mg_of X G aEO, kEO, bEO, FFE, PySem.W.mg_of X G aFE, kFE, bFE, FTA, PySem.W.mg_of X G aTA, kTA, bTA, FPI, PySem.W.mg_of X G aPI, kPI, bPI, FIV, PySem.W.mg_of X G aIV, kIV, bIV, FEN, PySem.W.mg_of X G aEN, kEN, bEN, FLN, PySem.W.mg_of X G aLN, kLN, bLN, FDU, PySem.W.mg_of X G aDU, kDU, bDU, FTO, PySem.W.mg_of X G aTO, kTO, bTO, FCH, PySem.W.mg_of X G aCH, kCH, bCH, PySem.W.mg_of X G aC, ⟨⟨pg, hd, po, sa⟩, na0⟩, ⟨mk, aI, iI, kc⟩, FUI, bUI, ⟨rdPA, gaPA⟩, ⟨aPA, ⟨_, rcPA⟩, fiPA⟩, FPA, bPA, ⟨⟨pg, hd, po, sa⟩, ihaEQ, ihnEQ, ihtEQ, ihmEQ, if_pos (beq_self_eq_true _)⟩, aEQ, iEQ, FEQ, bEQ, aUS, iUS, FUS, bUS, ⟨_, PySem.W.mg_of X G agLIM, rgLIM⟩, ⟨_, PySem.W.mg_of X G agLON, rgLON⟩, ⟨_, PySem.W.mg_of X G agGRE, rgGRE⟩, PySem.W.mg_none_of X G z1, PySem.W.mg_none_of X G z2, PySem.W.mg_none_of X G z3, PySem.W.mg_none_of X G z4, PySem.W.mg_none_of X G z5, PySem.W.mg_none_of X G z6, PySem.W.mg_none_of X G z7, PySem.W.mg_none_of X G z8, PySem.W.mg_none_of X G z9, PySem.W.mg_none_of X G z10, PySem.W.mg_none_of X G z11, PySem.W.mg_none_of X G z12, PySem.W.mg_none_of X G z13, PySem.W.mg_of X G aCi, PySem.W.mg_of X G aW, ⟨oexE, iE, tIE⟩, FEI, bEI, ⟨top, PySem.W.mg_none_of X G zsup, anyE⟩, ⟨oexE, mroE, supE, sbE⟩, ⟨⟨gaE, ggE, exE, hdE⟩, noE⟩, ⟨gaE, ggE, exE, hdE, haE, hnE, htE, hmE⟩, PySem.W.exm_ref w1 w2 w3 w4, kvE⟩
  exact ⟨PySem.W.fnOf "law" "law" (defArgs X5L.sLaw) (defBody X5L.sLaw) (defScope X5L.sLaw) .none kVLAW dcLAW pmLAW anLAW cdLAW ctLAW, fun s v => .of_eq rfl, fun base _ _ => X5L.ok_law FLAW T⟩
end X5E0
open PySem PySem.W PyProof.Rows
set_option maxRecDepth 100000 in
set_option maxHeartbeats 0 in
theorem PySem.Challenge.cw_wearswings_k51_texts_of_tables_holds : PySem.Challenge.rw_wearswings_k51_texts_of_tables.Holds := by
  w_on; o_law; k_head; (case hw => w_witness2)
  k_fill
  refine KW.walk_kept (l := PySem.Challenge.rw_wearswings_k51_texts_of_tables) (n := 63) (k := 9) (x := "script") (sp := X5L.spLaw) rfl (by decide) rfl ⟨rfl, by decide, by decide⟩ (fun w h Y => PySem.W.kIn_of Y) ?F (fun K H a ns hl _ hS => ⟨a, ns, rfl, hS, hl, fun _ => rfl⟩)
  case F =>
    intro w mg fa h KX G hmg
    refine' X5E0.all_mk KX G hmg ?aNU ?lNU ?cNU ?kNU ?aRD ?lRD ?cRD ?kRD ?aNL ?lNL ?cNL ?kNL ?aRO ?lRO ?cRO ?kRO ?aEO ?lEO ?cEO ?kEO ?aFE ?lFE ?cFE ?kFE ?aTA ?lTA ?cTA ?kTA ?aPI ?lPI ?cPI ?kPI ?aIV ?lIV ?cIV ?kIV ?aEN ?lEN ?cEN ?kEN ?aLN ?lLN ?cLN ?kLN ?aDU ?lDU ?cDU ?kDU ?aTO ?lTO ?cTO ?kTO ?aCH ?lCH ?cCH ?kCH ?aC ?pg ?hd ?po ?sa ?na0 ?mk ?kc ?aI ?iI ?lUI ?cUI ?kUI ?rdPA ?gaPA ?aPA ?rcPA ?fiPA ?lPA ?cPA ?kPA ?ihaEQ ?ihnEQ ?ihtEQ ?ihmEQ ?aEQ ?iEQ ?lEQ ?cEQ ?kEQ ?aUS ?iUS ?lUS ?cUS ?kUS ?agLIM ?rgLIM ?agLON ?rgLON ?agGRE ?rgGRE ?z1 ?z2 ?z3 ?z4 ?z5 ?z6 ?z7 ?z8 ?z9 ?z10 ?z11 ?z12 ?z13 ?aCi ?aW ?xL ?saE ?exE ?tyE ?kE ?iE ?tIE ?lEI ?cEI ?lcc ?lcd ?hv2 ?hfl ?top ?zsup ?anyE ?mroE ?supE ?sbE ?gaE ?ggE ?hdE ?noE ?haE ?hnE ?htE ?hmE ?w1 ?w2 ?w3 ?w4 ?kvE ?aLAW ?lLAW ?cLAW ?kLAW
    (case aNU => k_is)
    (case lNU => k_is)
    (case cNU => k_is)
    (case kNU => k_is)
    (case aRD => k_is)
    (case lRD => k_is)
    (case cRD => k_is)
    (case kRD => k_is)
    (case aNL => k_is)
    (case lNL => k_is)
    (case cNL => k_is)
    (case kNL => k_is)
    (case aRO => k_is)
    (case lRO => k_is)
    (case cRO => k_is)
    (case kRO => k_is)
    (case aEO => k_is)
    (case lEO => k_is)
    (case cEO => k_is)
    (case kEO => k_is)
    (case aFE => k_is)
    (case lFE => k_is)
    (case cFE => k_is)
    (case kFE => k_is)
    (case aTA => k_is)
    (case lTA => k_is)
    (case cTA => k_is)
    (case kTA => k_is)
    (case aPI => k_is)
    (case lPI => k_is)
    (case cPI => k_is)
    (case kPI => k_is)
    (case aIV => k_is)
    (case lIV => k_is)
    (case cIV => k_is)
    (case kIV => k_is)
    (case aEN => k_is)
    (case lEN => k_is)
    (case cEN => k_is)
    (case kEN => k_is)
    (case aLN => k_is)
    (case lLN => k_is)
    (case cLN => k_is)
    (case kLN => k_is)
    (case aDU => k_is)
    (case lDU => k_is)
    (case cDU => k_is)
    (case kDU => k_is)
    (case aTO => k_is)
    (case lTO => k_is)
    (case cTO => k_is)
    (case kTO => k_is)
    (case aCH => k_is)
    (case lCH => k_is)
    (case cCH => k_is)
    (case kCH => k_is)
    (case aC => k_is)
    (case pg => k_is)
    (case hd => k_is)
    (case po => k_is)
    (case sa => k_is)
    (case na0 => k_is)
    (case mk => k_is)
    (case kc => k_is)
    (case aI => k_is)
    (case iI => k_is)
    (case lUI => k_is)
    (case cUI => k_is)
    (case kUI => k_is)
    (case rdPA => k_is)
    (case gaPA => k_is)
    (case aPA => k_is)
    (case rcPA => k_is)
    (case fiPA => k_is)
    (case lPA => k_is)
    (case cPA => k_is)
    (case kPA => k_is)
    (case ihaEQ => k_is)
    (case ihnEQ => k_is)
    (case ihtEQ => k_is)
    (case ihmEQ => k_is)
    (case aEQ => k_is)
    (case iEQ => k_is)
    (case lEQ => k_is)
    (case cEQ => k_is)
    (case kEQ => k_is)
    (case aUS => k_is)
    (case iUS => k_is)
    (case lUS => k_is)
    (case cUS => k_is)
    (case kUS => k_is)
    (case agLIM => k_is)
    (case rgLIM => exact ⟨_, rfl⟩)
    (case agLON => k_is)
    (case rgLON => exact ⟨_, rfl⟩)
    (case agGRE => k_is)
    (case rgGRE => exact ⟨_, rfl⟩)
    (case z1 => k_is)
    (case z2 => k_is)
    (case z3 => k_is)
    (case z4 => k_is)
    (case z5 => k_is)
    (case z6 => k_is)
    (case z7 => k_is)
    (case z8 => k_is)
    (case z9 => k_is)
    (case z10 => k_is)
    (case z11 => k_is)
    (case z12 => k_is)
    (case z13 => k_is)
    (case aCi => k_is)
    (case aW => k_is)
    (case xL => k_is)
    (case saE => k_is)
    (case exE => k_is)
    (case tyE => k_is)
    (case kE => k_is)
    (case iE => k_is)
    (case tIE => k_is)
    (case lEI => k_is)
    (case cEI => k_is)
    (case lcc => k_is)
    (case lcd => k_is)
    (case hv2 => first | rfl | k_is)
    (case hfl => first | rfl | decide +kernel)
    (case top => first | rfl | decide +kernel)
    (case zsup => k_is)
    (case anyE => k_is)
    (case mroE => k_is)
    (case supE => ks_is)
    (case sbE => k_is)
    (case gaE => k_is)
    (case ggE => k_is)
    (case hdE => k_is)
    (case noE => k_is)
    (case haE => k_is)
    (case hnE => k_is)
    (case htE => k_is)
    (case hmE => k_is)
    (case w1 => k_is)
    (case w2 => k_is)
    (case w3 => k_is)
    (case w4 => first | rfl | k_is)
    (case kvE => first | rfl | k_is)
    (case aLAW => k_is)
    (case lLAW => k_is)
    (case cLAW => k_is)
    (case kLAW => k_is)

