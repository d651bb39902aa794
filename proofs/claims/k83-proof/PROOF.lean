import PyProof.Rows.All
import Wide.All
import OpenK.AllK
import Wide.FinOn
import HandS.ForMost
import HandS.Flow
import HandS.OwnEq
import HandS.More
import HandS.DictComp
import HandS.List
import KE.KEqDict
import KE.KDictKeyed
import KE.KRevSl
import PyProof.InstNe
import HandS.IsInst
import HandS.SortRule
import HandS.Property
import HandS.ClsMeth
import HandS.Star
import HandS.Codes
import HandS.Strs
import HandS.SetFor
import HandS.RaiseMore
import HandS.Wide
import HandS.Style
import HandS.Walk
import HandS.Zip
import HandS.TupAny
import HandS.Conv
import HandS.FStr
import KE.KCallOwn
import HandS.Text
import HandS.Comp
import HandS.Deep
import HandS.NoneIn
import PySem.Challenge.RW_wearswings_k83_counters
set_option Elab.async false
set_option linter.all false
set_option maxRecDepth 100000
set_option maxHeartbeats 16000000
/-! del xs[-3:-1] of a list of at least three -/
namespace DS
open PySem PySem.Spec PyProof.Rows L2
def sel (start stop step : Int) (i : Nat) : Bool :=
  if step > 0 then start ≤ i && i < stop && (i - start) % step == 0 else stop < i && i ≤ start && (start - i) % (-step) == 0
theorem sel_iff (a c : Int) (i : Nat) : sel a c 1 i = decide (a ≤ i ∧ (i : Int) < c) := by
  unfold sel
  rw [if_pos (by decide)]
  have e : ((((i : Int) - a) % 1) == 0) = true := by rw [Int.emod_one]; rfl
  rw [e, Bool.and_true]
  by_cases h1 : a ≤ (i : Int) <;> by_cases h2 : (i : Int) < c <;> simp [h1, h2]
def cutOut (a c : Int) (xs : Array Value) : Array Value := (xs.toList.zipIdx.filterMap fun (x, k) => if sel a c 1 k then none else some x).toArray
theorem keep_all {a c : Int} : ∀ (l : List Value) (s : Nat), ((s + l.length : Nat) : Int) ≤ a → (l.zipIdx s).filterMap (fun (x, k) => if sel a c 1 k then none else some x) = l
  | [], _, _ => rfl
  | x :: l, s, h => by
    rw [List.zipIdx_cons, List.filterMap_cons]
    have e : sel a c 1 s = false := by rw [sel_iff]; exact decide_eq_false (by simp only [List.length_cons] at h; omega)
    have ih := keep_all (a := a) (c := c) l (s + 1) (by simp only [List.length_cons] at h; omega)
    simp only [e, Bool.false_eq_true, if_false]
    rw [ih]
theorem cut_three (pre : List Value) (x y z : Value) : cutOut ((pre.length : Nat) : Int) (((pre.length + 2 : Nat)) : Int) (pre ++ [x, y, z]).toArray = (pre ++ [z]).toArray := by
  unfold cutOut
  congr 1
  show ((pre ++ [x, y, z]).zipIdx.filterMap _) = _
  rw [List.zipIdx_append, List.filterMap_append, keep_all pre 0 (by omega)]
  congr 1
  have e1 : sel ((pre.length : Nat) : Int) (((pre.length + 2 : Nat)) : Int) 1 pre.length = true := by rw [sel_iff]; exact decide_eq_true (by omega)
  have e2 : sel ((pre.length : Nat) : Int) (((pre.length + 2 : Nat)) : Int) 1 (pre.length + 1) = true := by rw [sel_iff]; exact decide_eq_true (by omega)
  have e3 : sel ((pre.length : Nat) : Int) (((pre.length + 2 : Nat)) : Int) 1 (pre.length + 1 + 1) = false := by rw [sel_iff]; exact decide_eq_false (by omega)
  simp only [Nat.zero_add, List.zipIdx_cons, List.zipIdx_nil, List.filterMap_cons, List.filterMap_nil, e1, e2, e3, if_true, Bool.false_eq_true, if_false]
theorem bounds31 (n : Nat) : sliceBounds (some (-3)) (some (-1)) none (n + 3) = (((n : Nat) : Int), ((n + 2 : Nat) : Int), 1) := by
  simp only [sliceBounds, Option.getD_none]
  have h1 : (-3 : Int) < 0 := by decide
  have h2 : (-1 : Int) < 0 := by decide
  simp only [h1, h2, if_true, show (1 : Int) > 0 by decide]
  congr 1
  · omega
  · congr 1; omega
section
variable {prog : Program} {w : World} {A : Around} {E : Value → Shared → Prop} {s : Shared}
theorem del31 {l sl : Addr} {its : Array Value} {n : Nat} {vl vu : Value} {Q : Unit → Shared → Prop} (e : s.heap.get? l = some { cls := .type "list", data := .seq its n }) (hs : s.heap.IsSliceOf sl vl vu .none)
    (pl : IsPart vl (some (-3))) (pu : IsPart vu (some (-1))) (m : Nat) (hm : its.size = m + 3) (hz : its.size ≤ sizeLine)
    (h : Q () { s with heap := s.heap.update l (Obj.mapSeq (cutOut (m : Int) ((m + 2 : Nat) : Int))) }) : wpAny (model prog w) A (delItem (.ref l) (.ref sl)) Q E s := by
  have hl : s.heap.IsList l its := PySem.IsL.isList e
  obtain ⟨os, hos, hcs, hds⟩ := id hs
  have hT : s.TypeIs (.ref sl) "slice" := ⟨os, hos, hcs⟩
  have hst : ¬ ((rawPart none == rawInt 0) = true) := Bool.false_ne_true
  refine wpAny_delItem_slot hl.typeIs (by decide) F.slot_list_delitem (wpAny_call_entry F.slot_list_delitem hl.typeIs F.entry_list_delitem ?_ (F.args_list_delitem_2 _ _))
  unfold Builtin.«list.__delitem__»
  refine wpAny_bind (wpAny_of_eq (a := (Value.ref l, [Value.ref sl])) (by first | rfl | kernel_rfl) ?_)
  show wpAny _ _ (Builtin.List.listSubscript? (.ref sl) >>= _) _ _ s
  unfold Builtin.List.listSubscript?
  refine wpAny_bind (wpAny_bind (wpAny_specialOf hT slice_no_index ?_))
  simp only [Option.isNone_none, if_true]
  refine wpAny_pure ?_
  show wpAny _ _ (typeOf (.ref sl) >>= _) _ _ s
  refine wpAny_bind (wpAny_typeOf hT ?_)
  first
    | rw [if_neg (by decide)]
    | refine PySem.W.KFB.if_not (by decide) ?_
  rw [listSliceParts_eq]
  refine wpAny_bind (wpAny_bind (wpAny_field hos hds rfl (wpAny_bind (wpAny_listPart .none ?_))))
  rw [if_neg hst]
  refine wpAny_bind (wpAny_field hos hds rfl (wpAny_bind (wpAny_listPart pl ?_)))
  refine wpAny_bind (wpAny_field hos hds rfl (wpAny_bind (wpAny_listPart pu (wpAny_pure ?_))))
  unfold Builtin.List.listItems
  refine wpAny_bind (wpAny_bind (wpAny_seqItems e rfl (wpAny_pure ?_)))
  rw [hm]
  refine wpAny_bind (wpAny_of_eq ((sliceIndices_raw (some (-3)) (some (-1)) none (m + 3) (by simp)).trans (congrArg (pure : Int × Int × Int → Sem (Int × Int × Int)) (bounds31 m))) ?_)
  refine wpAny_bind (wpAny_rule ?_)
  have hz2 : (cutOut (m : Int) ((m + 2 : Nat) : Int) its).size ≤ sizeLine + 1 := by
    unfold cutOut
    rw [List.size_toArray]
    refine Nat.le_trans (List.length_filterMap_le _ _) ?_
    rw [List.length_zipIdx, Array.length_toList]
    omega
  show wpAny _ _ (updateSeq l (cutOut (m : Int) ((m + 2 : Nat) : Int)) >>= _) _ _ s
  refine wpAny_bind (wpAny_updateSeq (hz := hz) (_hz' := hz2) e rfl ?_)
  refine wpAny_bind (wpAny_letGo ?_)
  first
    | exact wpAny_pure ⟨.none, rfl, h⟩
    | exact wpAny_pure h
end
theorem split3 : ∀ {pre : List V} {x1 y1 z1 : V} {its : List Value}, Vals (pre ++ [x1, y1, z1]) its → ∃ ip i1 i2 i3, its = ip ++ [i1, i2, i3] ∧ Vals pre ip ∧ RelV x1 i1 ∧ RelV y1 i2 ∧ RelV z1 i3
  | [], _, _, _, _, .cons r1 (.cons r2 (.cons r3 .nil)) => ⟨[], _, _, _, rfl, .nil, r1, r2, r3⟩
  | _ :: pre, _, _, _, _, .cons r0 t => by
    obtain ⟨ip, i1, i2, i3, e, rp, h⟩ := split3 (pre := pre) t
    exact ⟨_ :: ip, i1, i2, i3, by rw [e]; rfl, .cons r0 rp, h⟩
section
variable {X : Cx}
/-- del xs[-3:-1] of a list of at least three -/
def tDel31 (to : TE) (tl th : TO) : TS := fun D σ H => to σ H fun x H1 => tl σ H1 fun l H2 => th σ H2 fun u H3 => l = some (-3) ∧ u = some (-1) ∧ ∃ (a : Addr) (pre : List V) (x1 y1 z1 : V), x = .ref a ∧ H3 a = some (.lst (pre ++ [x1, y1, z1])) ∧
  D.nx σ (upd H3 a (.lst (pre ++ [z1])))
theorem ps_del31 {o : Expr} {lo hi : Option Expr} {to : TE} {tl th : TO} {tpos p2 pos : Pos} (ho : PE X o to) (hl : PO X lo tl) (hu : PO X hi th) : PS X (.Delete [.Subscript o (.Slice lo hi none p2) tpos] pos) (tDel31 to tl th) := by
  refine ⟨fun pins s σ H D I h => ?_⟩
  refine wpAny_Delete (wpAny_deleteEach_cons (wpAny_delete_Subscript (thn (ho.run pins s σ H _ I h) fun u s1 ⟨x, H1, I1, rx, q1⟩ => ?_)))
  refine wpAny_Slice (thn (hl.run pins s1 σ H1 _ I1 q1) fun vl s2 ⟨l, H2, I2, pl, q2⟩ => thn (hu.run pins s2 σ H2 _ I2 q2) fun vu s3 ⟨w, H3, I3, pu, q3⟩ => ?_)
  rw [evalPart_none]
  refine wpAny_pure ?_
  obtain ⟨e1, e2, a, pre, x1, y1, z1, rfl, hH, q⟩ := q3
  subst e1 e2
  cases (show u = Value.ref a from rx)
  have I4 : Inv X pins σ H3 { s3 with heap := s3.heap.push { cls := .type "slice", data := .fields #[vl, vu, .none] } } := I3.kept (t' := s3.toks) fun b o e => Heap.get?_push_of_some _ e
  obtain ⟨z, its, n, r, hlen, e⟩ := I4.lstM hH
  have hn : its.length = pre.length + 3 := by rw [← hlen]; simp
  obtain ⟨ip, i1, i2, i3, ei, rp, r1, r2, r3⟩ : ∃ ip i1 i2 i3, its = ip ++ [i1, i2, i3] ∧ Vals pre ip ∧ RelV x1 i1 ∧ RelV y1 i2 ∧ RelV z1 i3 := split3 r
  subst ei
  have hp : ip.length = pre.length := rp.length.symm
  refine del31 e (Heap.IsSliceOf.new ..) pl pu pre.length (by rw [List.size_toArray]; exact hn) (by rw [List.size_toArray, ← hlen]; exact z) (wpAny_deleteEach_nil ⟨σ, _, I4.lset (ys := pre ++ [z1]) (its' := ip ++ [i3]) (t' := s3.toks) hH e ?_ (rp.append (.cons r3 .nil)) ?_, q⟩)
  · rw [← hp]
    exact cut_three ip i1 i2 i3
  · have := z
    simp only [List.length_append, List.length_cons, List.length_nil] at this ⊢
    omega
end
end DS

/-! set(xs) of a list of ints, with the order's ledger kept (for sorted behind it) -/
namespace KS
open PySem PySem.Spec PyProof.Rows L2
abbrev leer (w : World) : Obj := { cls := .type "set", dict := none, data := .set #[] 0 (.fresh 0 0 (!w.params.followText "set-order")) }
section
variable {P : Program} {w : World} {A : Around} {E : Value → Shared → Prop} {s : Shared}
/-- what stands behind set's own __init__ -/
abbrev Made (w : World) (s : Shared) (ns : List Int) (Q : Shared → Prop) : Prop :=
  ∀ (g : Heap) (tk c : Nat), SetR w g s.heap.objs.size (fun j => decide (j ∈ ns)) c → c ≤ ns.length → (∀ b o, s.heap.get? b = some o → g.get? b = some o) → Q { s with heap := g, toks := tk }
set_option maxHeartbeats 6400000 in
theorem set_lst {l : Addr} {its : Array Value} (ns : List Int) {Q : Value → Shared → Prop} (hh : A.handled = none) (hl : s.heap.IsList l its) (hit : IntsAre its.toList ns) (hb : ns.length + 1 < scanBound)
    (h : Made w s ns (Q (.ref s.heap.objs.size))) : wpAny (model P w) A (call (.type "set") [.ref l]) Q E s := by
  have hn : its.size = ns.length := by
    rw [← Array.length_toList]; exact IntsAre.length hit
  obtain ⟨c0, t0, hm⟩ := F.called_set.mro
  have k1 := F.called_set.made; have k2 := F.called_set.sub; have k3 := F.called_set.notType; have k4 := F.called_set.canCreate; have k5 := F.typeCall_set_1 (.ref l)
  refine wpAny_call (codeAny_of_tree (show wpAny _ _ (callAny (.type "set") _) _ _ _ from ?_))
  have uu : A.under (.builtin "type.__call__" ⟨[.type "set", .ref l], []⟩) = A.in1 := Around.under_plain (weight_type_call_type "set" [.ref l] []) rfl
  refine wpAny_pure ⟨Code.quiet_builtin _ (by decide +kernel), codeAny_builtin F.entry_type_call ?_⟩
  rw [show A.under (.builtin "type.__call__" { ({ pos := [Value.ref l] } : Args) with pos := .type "set" :: [Value.ref l] }) = A.in1 from uu]
  repeat (any_goals (first | assumption | wp_step))
  have hs0 : (s.heap.push (leer w)).get? s.heap.objs.size = some (leer w) := Heap.get?_push_size _ rfl
  refine codeAny_mono (code_set_led1 (.ref l) (E := E) (Q₁ := fun x s1 => x = .ref s.heap.objs.size ∧ s1 = { s with heap := s.heap.push (leer w) }) ⟨rfl, rfl⟩) fun r1 s1 e1 => ?_
  match r1, e1 with
  | .error _, e1 => exact e1
  | .ok (.next), e1 => exact e1.elim
  | .ok (.brk), e1 => exact e1.elim
  | .ok (.cont), e1 => exact e1.elim
  | .ok (.ret x), e1 =>
    obtain ⟨rfl, rfl⟩ := e1
    have hT : Shared.TypeIs { s with heap := s.heap.push (leer w) } (.ref s.heap.objs.size) "set" := ⟨_, hs0, rfl⟩
    have j1 := F.called_set.init.lookup; have j2 := F.called_set.init.bind (.ref s.heap.objs.size)
    repeat (any_goals (first | assumption | wp_step))
    refine codeAny_mono (codeAny_call_builtin (R := wants (fun v s2 => v = .none ∧ ∃ g tk c, s2 = { s with heap := g, toks := tk } ∧ SetR w g s.heap.objs.size (fun j => decide (j ∈ ns)) c ∧ c ≤ ns.length ∧ ∀ b o, s.heap.get? b = some o → g.get? b = some o) E)
      F.called_set.init.plain F.entry_set_init (check_set_init_1 hT ?_)) fun r2 s2 e2 => ?_
    · obtain ⟨ol, a1, a2, nl, a3⟩ := hl
      obtain ⟨xc, xd, xt, xs⟩ := ol
      simp only at a2 a3
      subst a2 a3
      have a4 : (s.heap.push (leer w)).get? l = some { cls := .type "list", dict := xd, data := .seq its nl, slots := xs } := Heap.get?_push_of_some _ a1
      have b1 := F.sub_list_set; have b2 := F.sub_list_frozenset; have b3 : (Value.type "list" == Value.type "dict") = false := by decide
      have a5 : (s.heap.push (leer w)).IsList l its := ⟨_, a4, rfl, nl, rfl⟩
      unfold Builtin.«set.__init__» noKeywords Builtin.Frozenset.updateFrom
      generalize hPI : pyIter = PI
      wp_walk
      subst hPI
      refine wpAny_pyIter_list a5 (wpAny_bind (wpAny_runValue ?_))
      have lt := Heap.lt_size a1
      have sz : (s.heap.push (leer w)).objs.size = s.heap.objs.size + 1 := Heap.size_push ..
      have d1 : l ≠ (s.heap.push (leer w)).objs.size := by rw [sz]; exact Nat.ne_of_lt (Nat.lt_succ_of_lt lt)
      have d2 : s.heap.objs.size ∉ [(s.heap.push (leer w)).objs.size, l] := by
        rw [sz]; intro z; rcases List.mem_cons.mp z with z | z
        · exact absurd z (Nat.ne_of_lt (Nat.lt_succ_self _))
        · exact absurd (List.mem_singleton.mp z) (Nat.ne_of_gt lt)
      have vl : ∀ i v, its[i]? = some v → ∃ (k : Int) (t : Tok), ns[i]? = some k ∧ v = Value.int k t := fun i v e => by
        have hi : i < ns.length := by rw [← hn]; exact (Array.getElem?_eq_some_iff.mp e).1
        obtain ⟨t, et⟩ := IntsAre.int_at hit i v (by rw [Array.getElem?_toList]; exact e)
        exact ⟨ns[i], t, List.getElem?_eq_getElem hi, by rw [et, List.getD_eq_getElem?_getD, List.getElem?_eq_getElem hi]; rfl⟩
      have hq : A.in1.in1.in1.handled = none := by simp [hh]
      refine set_update_ints ((Walks.list hq _ l d1 its).toS) s.heap.objs.size d2 ns hn hb vl (its.size - 0) 0 _ (by omega) (Nat.zero_le _) ⟨⟨_, Heap.get?_push_size _ rfl, rfl, rfl⟩, a5.push _⟩
        ⟨0, Nat.le_refl 0, setR_new_at (Heap.get?_push_of_some _ hs0)⟩ fun s3 c3 mv hc3 R3 => ?_
      obtain ⟨g3, gg, dd, tk3, oo⟩ := s3
      obtain rfl : gg = s.gens := mv.gens
      obtain rfl : dd = s.drawn := mv.drawn
      obtain rfl : oo = s.os := mv.os
      refine (show wpAny _ _ _ _ _ _ from wpAny_pure (show wpAny _ _ (ret Value.none) _ _ _ from wpAny_pure ⟨rfl, g3, tk3, c3, rfl, R3, by omega, fun b o e => ?_⟩))
      have hb0 := Heap.lt_size e
      exact mv.heap b o (by rw [sz]; intro z; rcases List.mem_cons.mp z with z | z
                            · exact absurd z (Nat.ne_of_lt hb0)
                            · exact absurd (List.mem_singleton.mp z) (Nat.ne_of_lt (Nat.lt_succ_of_lt hb0))) (Heap.get?_push_of_some _ (Heap.get?_push_of_some _ e))
    · match r2, e2 with
      | .error _, e2 => exact e2
      | .ok (.next), e2 => exact e2.elim
      | .ok (.brk), e2 => exact e2.elim
      | .ok (.cont), e2 => exact e2.elim
      | .ok (.ret y), e2 =>
        obtain ⟨rfl, g, tk, c, rfl, R2, hc, hk⟩ := e2
        repeat (any_goals (first | assumption | wp_step))
        exact h _ _ _ R2 hc hk
end
section
variable {X : Cx}
/-- set(xs) of a list of ints -/
def rSetL (w : World) (K : PySem.W.Frag) : List V → Hp → VK → Prop := fun vs H Q => ∃ (a : Addr) (ns : List Int), vs = [V.ref a] ∧ SqL K H a (ns.map V.int) ∧ ns.length ≤ 1000 ∧
  ∀ (p : Addr) (c : Nat), H p = none → c ≤ ns.length → Q (.ref p) (upd H p (SetO w p (fun j => decide (j ∈ ns)) c))
theorem cr_setL (hc : X.calm = true) : CallR X (.type "set") (rSetL X.w X.K) := by
  intro pins s σ H vs us Q I r h
  obtain ⟨a, ns, rfl, hS, hlen, q⟩ := h
  rw [Vals.ref1 r]
  obtain ⟨its, rv, pl, hz⟩ := I.list hS
  refine set_lst ns (I.ok.hd hc) pl.isList (by simpa using ints_of_vals rv) (by unfold scanBound; omega) fun g tk c R hcn k => ?_
  exact ⟨.ref _, _, I.laid (t' := tk) k (Nat.le_refl _) (setO_new R), rfl, q _ c (I.hok.fresh (Nat.le_refl _)) hcn⟩
end
end KS

/-! repr(xs) of a list of ints; a law's def whose body knows that no repr is under way -/
namespace KG
open PySem PySem.Spec PyProof.Rows L2
/-! ### the text of a list of ints -/
def datL (ns : List Int) : PyData := .list (ns.map PyData.int)
def reprL (ns : List Int) : Str := (datL ns).shown
theorem small_log {i : Int} {k : Nat} (h0 : 0 < k) (h : i.natAbs < 2 ^ k) : i.natAbs.log2 < k := PySem.Flt.log2_lt_of h0 h
theorem show_all : ∀ (ns : List Int), (∀ n ∈ ns, n.natAbs < 2 ^ 40) → PyData.showableAll (ns.map PyData.int) = true
  | [], _ => rfl
  | a :: r, h => by
    have h1 : a.natAbs.log2 < 1920 := Nat.lt_of_lt_of_le (small_log (by decide) (h a List.mem_cons_self)) (by decide)
    have h2 := show_all r fun n hn => h n (List.mem_cons_of_mem _ hn)
    simp only [List.map_cons, PyData.showableAll, PyData.showable, h2, h1, decide_true, Bool.and_self]
theorem nodict_all : ∀ (ns : List Int), PyData.hasDictAll (ns.map PyData.int) = false
  | [] => rfl
  | a :: r => by simp only [List.map_cons, PyData.hasDictAll, PyData.hasDict, nodict_all r, Bool.or_self]
theorem depth_all : ∀ (ns : List Int), PyData.depthAll (ns.map PyData.int) ≤ 1
  | [] => Nat.zero_le _
  | a :: r => by
    have := depth_all r
    simp only [List.map_cons, PyData.depthAll, PyData.depth]
    omega
theorem leaves_all : ∀ (ns : List Int), (∀ n ∈ ns, n.natAbs < 10 ^ 12) → PyData.leavesShortAll 13 (ns.map PyData.int) = true
  | [], _ => rfl
  | a :: r, h => by
    have h2 := leaves_all r fun n hn => h n (List.mem_cons_of_mem _ hn)
    have h1 : (PyData.shown (.int a)).length ≤ 13 := by
      have := PySem.int_text_length_le10 (a := a) (k := 12) (by decide) (h a List.mem_cons_self)
      have e : (PyData.shown (.int a)).length = (toString a).length := by
        simp only [PyData.shown]
        exact PySem.ofString_length _
      omega
    simp only [List.map_cons, PyData.leavesShortAll, PyData.leavesShort, h2, Bool.and_true, decide_eq_true_eq]
    exact h1
theorem weight_all : ∀ (ns : List Int), (∀ n ∈ ns, n.natAbs < 2 ^ 39) → PyData.weightAll (ns.map PyData.int) ≤ 60 * ns.length
  | [], _ => Nat.le_refl _
  | a :: r, h => by
    have h1 := weight_all r fun n hn => h n (List.mem_cons_of_mem _ hn)
    have h2 : a.natAbs.log2 < 39 := small_log (by decide) (h a List.mem_cons_self)
    simp only [List.map_cons, PyData.weightAll, PyData.weight, List.length_cons]
    split <;> omega
theorem repr_fits {ns : List Int} (h : ∀ n ∈ ns, n.natAbs < 2 ^ 39) (hl : ns.length ≤ 2000) : (reprL ns).length ≤ sizeLine := by
  refine PyData.shown_fits (B := 13) (by decide) (by decide) ?_ ?_
  · show PyData.leavesShort 13 (.list _) = true
    simp only [PyData.leavesShort, leaves_all ns fun n hn => Nat.lt_trans (h n hn) (by decide)]
  · show PyData.weight (.list _) ≤ _
    have := weight_all ns h
    simp only [PyData.weight]
    omega
theorem reads_all {h : Heap} : ∀ {us : List Value} {ns : List Int}, IntsAre us ns → ReadsAll h us (ns.map PyData.int) []
  | _, _, .nil => .nil
  | _, _, .cons n t r => by
    have z := ReadsAll.cons (Reads.int (h := h) n t) (reads_all r)
    exact z
section
variable {X : Cx}
/-- repr(xs) of a list of ints, while no repr is under way -/
def rReprL (K : PySem.W.Frag) : List V → Hp → VK → Prop := fun vs H Q => ∃ (a : Addr) (ns : List Int), vs = [V.ref a] ∧ SqL K H a (ns.map V.int) ∧ (∀ n ∈ ns, n.natAbs < 2 ^ 39) ∧ ns.length ≤ 2000 ∧ Q (.str (reprL ns)) H
theorem cr_reprL (hg : X.A.guards = some []) (hu : X.A.units + 100 < cLine) : CallR X (.builtin "repr") (rReprL X.K) := by
  intro pins s σ H vs us Q I r h
  obtain ⟨a, ns, rfl, hS, hb, hl, q⟩ := h
  rw [Vals.ref1 r]
  obtain ⟨its, rv, ⟨o, n, ho, hc, hdn, hd⟩, hz⟩ := I.list hS
  have rd : Reads s.heap (.ref a) (datL ns) [a] := .list ho hc hd (reads_all (by simpa using ints_of_vals rv))
  refine repr_of_reads' rd (by show PyData.showable (.list _) = true; simp only [PyData.showable]; exact show_all ns fun m hm => Nat.lt_trans (hb m hm) (by decide)) (PyData.noDict_hsm (by show PyData.hasDict (.list _) = false; simp only [PyData.hasDict]; exact nodict_all ns)) hg
    (by have := depth_all ns; show X.A.units + (PyData.depth (.list _) + 1) < cLine; simp only [PyData.depth]; omega) (fun _ _ e => e) (fun g u tk k => ?_) (repr_fits hb hl)
  exact ⟨.str (reprL ns), H, I.kept k, ⟨u, rfl⟩, q⟩
end
end KG

/-! the def of the law itself, called where no repr is under way -/
namespace KW
open PySem PySem.Spec PyProof.Rows L2
/-- the def at f keeps sp where it is called with no repr under way -/
def Kept (P : Program) (w : World) (K : PySem.W.Frag) (mg : Str → Option Value) (base : Heap) (k : Nat) (f : Addr) (fd : FuncData) (ps : List Str) (sp : Sp) : Prop :=
  ∀ (A : Around) (outer : List Env) (s : Shared) (H : Hp) (args : Args) (us : List Value) (vs : List V) (Q : VK) (E : XK), A.guards = some [] → Room k A → Env0 P w K mg base A outer s H →
    BindsTo s fd args (ps.zip us) → Vals vs us → sp vs H Q E → codeAny (model P w) A (.call (.ref f) args) (CR CX0 outer P w H s Q E) s
section
variable {P : Program} {w : World} {K : PySem.W.Frag} {mg : Str → Option Value} {base : Heap}
theorem kept_of {x qual : Str} {st : Stmt} {f : Addr} {fd : FuncData} {N ps : List Str} {k : Nat} {sp : Sp} (F : Fun K x qual st f fd) (S : FnScope N ps (defScope st)) (len : ∀ vs H Q E, sp vs H Q E → vs.length = ps.length)
    (hb : ∀ (cdv : Value) (A : Around) (outer : List Env) (s : Shared) (H : Hp) (vs : List V) (Q : VK) (E : XK), A.guards = some [] → Room k (A.deeper (envOfC qual (defScope st) s.heap.objs.size f cdv)) → sp vs H Q E →
      ∃ t, PSs (cxOf CX0 P w K mg base N qual (defScope st) f cdv A outer s H E).nox (defBody st) t ∧ t { nx := fun _ H' => Q .non H', rt := Q } (start N vs) H) : Kept P w K mg base (k + 1) f fd ps sp := by
  obtain ⟨oc, od, kV, doc, pm, an, cdv, ct, osl, e1, lk, hcd⟩ := F.ex
  subst e1
  intro A outer s H args us vs Q E hg hr e0 bnd r hsp
  obtain ⟨t, d, q⟩ := hb cdv A outer s H vs Q E hg (hr.deeper _) hsp
  have lv := len _ _ _ _ hsp
  have kin : K.In s.heap := e0.mod.kin.keeps fun b o e => (e0.bs b o e).1
  have kd : ∀ y ∈ ps.zip us, (defScope st).names.lookup y.1 = some .local ∨ ((defScope st).names.lookup y.1 = some .cell ∧ ((cellsFrom (s.heap.objs.size + 1) (defScope st).names []).lookup y.1).isSome = true) := by
    rintro ⟨n, v⟩ hy
    exact (S.par n (List.of_mem_zip hy).1).imp id fun z => ⟨z, PySem.W.cellsFrom_some _ _ _ (.inl z)⟩
  refine codeAny_call_function hr.depth (kin _ _ lk) rfl S.co S.gen rfl (PySem.W.codeRec_of kin hcd) (bnd _ _ _ _ (wpAny_newFunctionEnv_cells S.kind kd fun env he s1 x1 => ?_))
  subst he
  refine ⟨(e0.mod.nolimit.keeps fun b o e => (e0.bs b o e).1).keeps x1.toInCall.keep, codeAny_func (wpAny_mono (d.nox.run [] s1 (start N vs) H _ (inv_start S hr.hd e0 lv r x1) q) (fun fl s2 z => ?_) fun _ _ z => z)⟩
  match fl, z with
  | .ret u, ⟨v, σ2, H2, J, rv, q2⟩ => exact ⟨v, H2, J.os, J.bare, J.base, J.hok, rv, q2⟩
  | .next, ⟨σ2, H2, J, q2⟩ => exact ⟨V.non, H2, J.os, J.bare, J.base, J.hok, rfl, q2⟩
  | .brk, ⟨_, _, _, q2⟩ => exact q2.elim
  | .cont, ⟨_, _, _, q2⟩ => exact q2.elim
/-- the heap that tracks the script alone, or nothing where it is the text's own -/
def hpOf (K : PySem.W.Frag) (a : Addr) (o : Obj) (xs : List V) : Hp := fun b => if b = a ∧ K.lookup a = none then some (.frz o (.lst xs)) else none
theorem hpOf_some {K : PySem.W.Frag} {a b : Addr} {o : Obj} {xs : List V} {u : HO} (e : hpOf K a o xs b = some u) : b = a ∧ K.lookup a = none ∧ u = .frz o (.lst xs) := by
  unfold hpOf at e
  split at e
  · rename_i z
    exact ⟨z.1, z.2, (Option.some.inj e).symm⟩
  · cases e
theorem run_law {mb : Str → Option Value} {k : Nat} {fa a : Addr} {fd : FuncData} {x : Str} {sp : Sp} {s1 : Shared} {vs : List Value} {ns : List Int}
    (kin : K.In s1.heap) (h1 : s1.heap.Ns mainGlobals mg) (h2 : s1.heap.Ns builtinsNs mb) (h3 : ∀ y : Str, y ≠ "__name__" → mb y = bootBuiltins y) (h4 : s1.heap.NoLimit) (h5 : s1.gens = #[])
    (ha : s1.heap.get? a = some { cls := .type "list", data := .seq vs.toArray }) (hi : IntsAre vs ns) (hl : ns.length ≤ sizeLine) (hr : Room k callerA)
    (F : ∀ bs : Heap, K.In bs → bs.Ns mainGlobals mg → Kept P w K mg bs k fa fd [x] sp) (hbd : ∀ (s : Shared) (u : Value), BindsTo s fd ⟨[u], []⟩ [(x, u)])
    (hsp : ∀ H : Hp, Only H → SqL K H a (ns.map V.int) → sp [.ref a] H (fun v _ => v = .bl true) fun _ _ _ => False) :
    codeAny (model P w) callerA (.call (.ref fa) ⟨[.ref a], []⟩) (fun r s' => r = .ok (.ret (.bool true)) ∧ OldK s1.heap s'.heap ∧ s'.os = s1.os ∧ AllBare s'.gens) s1 := by
  have rv := vals_ints hi
  let ob : Obj := { cls := .type "list", data := .seq vs.toArray }
  generalize hH : hpOf K a ob (ns.map V.int) = H
  have hsome : ∀ {b u}, H b = some u → b = a ∧ K.lookup a = none ∧ u = .frz ob (.lst (ns.map V.int)) := fun {b u} e => hpOf_some (by rw [hH]; exact e)
  have hO : Only H := fun b => by
    cases e : H b with
    | none => exact .inl rfl
    | some u => exact .inr ⟨_, _, by rw [(hsome e).2.2]⟩
  have hS : SqL K H a (ns.map V.int) := by
    cases e : K.lookup a with
    | none => exact .inl (.inr ⟨ob, by rw [← hH]; exact if_pos ⟨rfl, e⟩⟩)
    | some o =>
      have e2 := kin a o e
      rw [ha] at e2
      cases e2
      exact .inr ⟨_, vs.toArray, _, e, rfl, rfl, rfl, by rw [List.size_toArray, hi.length]; exact hl, by simpa using rv⟩
  have hok : HOk P w H s1.heap := fun b u e => by
    obtain ⟨rfl, _, rfl⟩ := hsome e
    exact ⟨ha, by rw [List.length_map]; exact hl, vs, _, rv, ha⟩
  have free : ∀ {b : Addr} {o : Obj} {es : Array DictEntry} {ep : Nat}, s1.heap.get? b = some o → o.data = .dict es ep → H b = none := fun {b o es ep} e d => by
    cases z : H b with
    | none => rfl
    | some u =>
      obtain ⟨rfl, _, _⟩ := hsome z
      rw [ha] at e
      cases e
      cases d
  have toB : ∀ {b : Addr} {m : Str → Option Value}, s1.heap.Ns b m → (hidT s1.heap H).Ns b m := fun {b m} ⟨o, es, ep, e, d, r⟩ => ⟨o, es, ep, hidT_get e (free e d), d, r⟩
  have kB : K.In (hidT s1.heap H) := fun b o e => hidT_get (kin b o e) (by
    cases z : H b with
    | none => rfl
    | some u =>
      obtain ⟨rfl, z2, _⟩ := hsome z
      rw [z2] at e
      cases e)
  obtain ⟨mc, m1, m2⟩ := h4
  have e0 : Env0 P w K mg (hidT s1.heap H) callerA [] s1 H := ⟨rfl, ⟨kB, toB h1, ⟨mb, toB h2, h3⟩, ⟨mc, toB m1, m2⟩⟩, fun b o e => of_hidT e, Nat.le_of_eq (hidT_size _ _), trivial, fun b hb => (List.not_mem_nil (show b ∈ ([] : List Addr) from hb)).elim, hok, .of_eq h5⟩
  refine codeAny_mono (F _ kB (toB h1) callerA [] s1 H ⟨[.ref a], []⟩ [.ref a] [.ref a] _ _ rfl hr e0 (hbd s1 (.ref a)) (.cons rfl .nil) (hsp H hO hS)) fun r s2 z => ?_
  match r, z with
  | .error _, z => exact z.elim
  | .ok .next, z => exact z.elim
  | .ok .brk, z => exact z.elim
  | .ok .cont, z => exact z.elim
  | .ok (.ret u), ⟨v, H2, os, bare, un, hok2, rr, q⟩ =>
    have q2 : v = .bl true := q
    subst q2
    obtain rfl : u = Value.bool true := rr
    refine ⟨rfl, OldK.of_keep fun b o e => ?_, os, bare⟩
    cases z : H b with
    | none => exact un.keep b o e z (fun m => (List.not_mem_nil (show b ∈ ([] : List Addr) from m)).elim) (by simp)
    | some u =>
      obtain ⟨_, _, rfl⟩ := hsome z
      have t1 := (hok b _ z).1
      have t2 := (hok2 b _ (un.frzs b ob _ z)).1
      rw [e] at t1
      rw [t2, ← t1]
/-- the end: the law's promise over the written part alone -/
theorem walk_kept {l : PySem.W.OpenLaw} {n k : Nat} {q : Program} {loose : List Str} {XP : (Str → Option Value) → Heap → Prop} {YP : World → Heap → Prop} {d : DefRec} {KK : Params → PySem.W.Frag} {sp : PySem.W.Frag → Sp} {x : Str}
    (hn : l.most = some n) (hn2 : n ≤ sizeLine) (hdf : d.params.defaults = []) (hr : Room k callerA) (hY : ∀ (w : World) (h : Heap), YP w h → (KK w.params).In h)
    (F : ∀ (w : World) (mg : Str → Option Value) (fa : Addr) (h : Heap), (KK w.params).In h → h.Ns mainGlobals mg → mg d.name = some (.ref fa) →
      ∃ fd : FuncData, (∀ (s : Shared) (u : Value), BindsTo s fd ⟨[u], []⟩ [(x, u)]) ∧ ∀ bs : Heap, (KK w.params).In bs → bs.Ns mainGlobals mg → Kept l.prog w (KK w.params) mg bs k fa fd [x] (sp (KK w.params)))
    (hsp : ∀ (K : PySem.W.Frag) (H : Hp) (a : Addr) (ns : List Int), ns.length ≤ n → Only H → SqL K H a (ns.map V.int) → sp K [.ref a] H (fun v _ => v = .bl true) fun _ _ _ => False) :
    PySem.W.WalkO q loose XP YP l.row.toRowW d [] (fun f vs => PySem.call f vs) := by
  refine Att.attach_call hn hdf fun w s0 s1 mg mb fa o pm cd doc a vs ns G Y ho hd hcd hmg hobj hints hlen hg => ?_
  obtain ⟨fd, hb, hF⟩ := F w mg fa _ (hY w _ Y) G.T.g hmg
  exact run_law (hY w _ Y) G.T.g G.T.b G.T.builtins G.T.nolimit hg hobj hints (Nat.le_trans hlen hn2) hr hF hb fun H hO hS => hsp (KK w.params) H a ns hlen hO hS
end
end KW

/-! turning points, as mathematics: the stack's way and the law's way -/
namespace PM
/-- r lies between its neighbours b and a -/
abbrev Btw (r b a : Int) : Prop := (b < r ∧ r < a) ∨ (a < r ∧ r < b)
/-- the stack's way from b, a (a on top) on -/
def tq : Int → Int → List Int → List Int
  | _, a, [] => [a]
  | b, a, r :: l => if a = r then tq b a l else if Btw a b r then tq b r l else a :: tq a r l
def ts : Int → List Int → List Int
  | a, [] => [a]
  | a, r :: l => if a = r then ts a l else a :: tq a r l
def tp : List Int → List Int
  | [] => []
  | x :: l => ts x l
/-- repeated readings once -/
def ddf : Int → List Int → List Int
  | _, [] => []
  | p, x :: l => if x = p then ddf p l else x :: ddf x l
def dd : List Int → List Int
  | [] => []
  | x :: l => x :: ddf x l
/-- the law's way, over readings that differ from their neighbours -/
def lq : Int → Int → List Int → List Int
  | _, c, [] => [c]
  | p, c, d :: l => if (decide (c > p) = decide (c > d)) then c :: lq c d l else lq c d l
def lp : List Int → List Int
  | [] => []
  | [x] => [x]
  | x :: y :: l => x :: lq x y l
theorem tq_lq : ∀ (l : List Int) (b p a : Int), a ≠ b → a ≠ p → (a > b ↔ a > p) → tq b a l = lq p a (ddf a l)
  | [], _, _, _, _, _, _ => rfl
  | r :: l, b, p, a, h1, h2, h3 => by
    simp only [tq, ddf]
    by_cases e : a = r
    · rw [if_pos e, if_pos e.symm]
      exact tq_lq l b p a h1 h2 h3
    · rw [if_neg e, if_neg (show ¬ r = a from fun z => e z.symm)]
      simp only [lq]
      by_cases bt : Btw a b r
      · rw [if_pos bt]
        have hk : ¬ (decide (a > p) = decide (a > r)) := by
          intro z
          rw [decide_eq_decide] at z
          omega
        rw [if_neg hk]
        exact tq_lq l b a r (by omega) (fun z => e z.symm) (by omega)
      · rw [if_neg bt]
        have hk : decide (a > p) = decide (a > r) := by
          rw [decide_eq_decide]
          omega
        rw [if_pos hk]
        rw [tq_lq l a a r (fun z => e z.symm) (fun z => e z.symm) Iff.rfl]
theorem ts_lp : ∀ (l : List Int) (a : Int), ts a l = lp (a :: ddf a l)
  | [], _ => rfl
  | r :: l, a => by
    simp only [ts, ddf]
    by_cases e : a = r
    · rw [if_pos e, if_pos e.symm]
      exact ts_lp l a
    · rw [if_neg e, if_neg (show ¬ r = a from fun z => e z.symm)]
      rw [tq_lq l a a r (fun z => e z.symm) (fun z => e z.symm) Iff.rfl]
      rfl
theorem tp_lp (ns : List Int) : tp ns = lp (dd ns) := by
  cases ns with
  | nil => rfl
  | cons a l => exact ts_lp l a
/-- what the stack leaves, goes through the stack as it is -/
theorem tq_again : ∀ (l : List Int) (b a : Int), a ≠ b → ∃ x s, tq b a l = x :: s ∧ x ≠ b ∧ (x > b ↔ a > b) ∧ tq b x s = x :: s
  | [], b, a, h => ⟨a, [], rfl, h, Iff.rfl, rfl⟩
  | r :: l, b, a, h => by
    simp only [tq]
    by_cases e : a = r
    · rw [if_pos e]
      exact tq_again l b a h
    · rw [if_neg e]
      by_cases bt : Btw a b r
      · rw [if_pos bt]
        obtain ⟨x, s, h1, h2, h3, h4⟩ := tq_again l b r (by omega)
        exact ⟨x, s, h1, h2, by omega, h4⟩
      · rw [if_neg bt]
        obtain ⟨y, s, h1, h2, h3, h4⟩ := tq_again l a r (fun z => e z.symm)
        refine ⟨a, y :: s, by rw [h1], h, Iff.rfl, ?_⟩
        simp only [tq]
        have n1 : ¬ Btw a b y := by
          intro z
          have h6 : r > a ↔ y > a := h3.symm
          omega
        rw [if_neg (fun z : a = y => h2 z.symm), if_neg n1, h4]
theorem ts_again : ∀ (l : List Int) (a : Int), tp (ts a l) = ts a l
  | [], _ => rfl
  | r :: l, a => by
    simp only [ts]
    by_cases e : a = r
    · rw [if_pos e]
      exact ts_again l a
    · rw [if_neg e]
      obtain ⟨x, s, h1, h2, _, h4⟩ := tq_again l a r (fun z => e z.symm)
      rw [h1]
      show ts a (x :: s) = a :: x :: s
      simp only [ts]
      rw [if_neg (fun z : a = x => h2 z.symm), h4]
theorem tp_again (ns : List Int) : tp (tp ns) = tp ns := by
  cases ns with
  | nil => rfl
  | cons a l => exact ts_again l a
theorem tq_last : ∀ (l : List Int) (b a z : Int), (a :: l).getLast? = some z → tq b a (l ++ [z]) = tq b a l
  | [], b, a, z, h => by
    have e : a = z := Option.some.inj h
    subst e
    show tq b a [a] = [a]
    simp only [tq, if_true]
  | r :: l, b, a, z, h => by
    have h2 : (r :: l).getLast? = some z := by rw [List.getLast?_cons_cons] at h; exact h
    show tq b a (r :: (l ++ [z])) = tq b a (r :: l)
    simp only [tq]
    by_cases e : a = r
    · rw [if_pos e, if_pos e]
      subst e
      exact tq_last l b a z h2
    · rw [if_neg e, if_neg e, tq_last l b r z h2, tq_last l a r z h2]
theorem ts_last : ∀ (l : List Int) (a z : Int), (a :: l).getLast? = some z → ts a (l ++ [z]) = ts a l
  | [], a, z, h => by
    have e : a = z := Option.some.inj h
    subst e
    show ts a [a] = [a]
    simp only [ts, if_true]
  | r :: l, a, z, h => by
    have h2 : (r :: l).getLast? = some z := by rw [List.getLast?_cons_cons] at h; exact h
    show ts a (r :: (l ++ [z])) = ts a (r :: l)
    simp only [ts]
    by_cases e : a = r
    · rw [if_pos e, if_pos e]
      subst e
      exact ts_last l a z h2
    · rw [if_neg e, if_neg e, tq_last l a r z h2]
theorem tp_last (ns : List Int) (z : Int) (h : ns.getLast? = some z) : tp (ns ++ [z]) = tp ns := by
  cases ns with
  | nil => simp at h
  | cons a l => exact ts_last l a z h
/-- sizes and bounds -/
theorem tq_mem : ∀ (l : List Int) (b a x : Int), x ∈ tq b a l → x = a ∨ x ∈ l
  | [], _, _, x, h => .inl (List.mem_singleton.mp h)
  | r :: l, b, a, x, h => by
    simp only [tq] at h
    split at h
    · rcases tq_mem l b a x h with z | z
      · exact .inl z
      · exact .inr (List.mem_cons_of_mem _ z)
    · split at h
      · rcases tq_mem l b r x h with z | z
        · rw [z]; exact .inr List.mem_cons_self
        · exact .inr (List.mem_cons_of_mem _ z)
      · rcases List.mem_cons.mp h with z | z
        · exact .inl z
        · rcases tq_mem l a r x z with z | z
          · rw [z]; exact .inr List.mem_cons_self
          · exact .inr (List.mem_cons_of_mem _ z)
theorem tq_len : ∀ (l : List Int) (b a : Int), (tq b a l).length ≤ l.length + 1
  | [], _, _ => Nat.le_refl _
  | r :: l, b, a => by
    have h1 := tq_len l b a
    have h2 := tq_len l b r
    have h3 := tq_len l a r
    simp only [tq, List.length_cons]
    split
    · omega
    · split
      · omega
      · rw [List.length_cons]; omega
theorem ts_mem : ∀ (l : List Int) (a x : Int), x ∈ ts a l → x = a ∨ x ∈ l
  | [], _, x, h => .inl (List.mem_singleton.mp h)
  | r :: l, a, x, h => by
    simp only [ts] at h
    split at h
    · rcases ts_mem l a x h with z | z
      · exact .inl z
      · exact .inr (List.mem_cons_of_mem _ z)
    · rcases List.mem_cons.mp h with z | z
      · exact .inl z
      · rcases tq_mem l a r x z with z | z
        · rw [z]; exact .inr List.mem_cons_self
        · exact .inr (List.mem_cons_of_mem _ z)
theorem ts_len : ∀ (l : List Int) (a : Int), (ts a l).length ≤ l.length + 1
  | [], _ => Nat.le_refl _
  | r :: l, a => by
    have h1 := ts_len l a
    have h2 := tq_len l a r
    simp only [ts, List.length_cons]
    split
    · omega
    · rw [List.length_cons]; omega
theorem tp_mem {ns : List Int} {x : Int} (h : x ∈ tp ns) : x ∈ ns := by
  cases ns with
  | nil => exact h
  | cons a l =>
    rcases ts_mem l a x h with z | z
    · rw [z]; exact List.mem_cons_self
    · exact List.mem_cons_of_mem _ z
theorem tp_len (ns : List Int) : (tp ns).length ≤ ns.length := by
  cases ns with
  | nil => exact Nat.le_refl _
  | cons a l => exact ts_len l a
/-- the swings of turning points -/
def rg (a b : Int) : Int × Int := (if b < a then b else a, if b > a then b else a)
def sw : List Int → List (Int × Int)
  | x :: y :: l => rg x y :: sw (y :: l)
  | _ => []
theorem sw_len : ∀ ps : List Int, (sw ps).length = ps.length - 1
  | [] => rfl
  | [_] => rfl
  | x :: y :: l => by
    have := sw_len (y :: l)
    simp only [sw, List.length_cons] at this ⊢
    omega
theorem sw_take : ∀ (ps : List Int) (i : Nat) (x y : Int), ps[i]? = some x → ps[i + 1]? = some y → (sw ps).take (i + 1) = (sw ps).take i ++ [rg x y]
  | [], _, _, _, h, _ => by simp at h
  | [_], 0, _, _, _, h => by simp at h
  | [_], i + 1, _, _, h, _ => by simp at h
  | a :: b :: l, 0, x, y, h, h2 => by
    have e1 : a = x := Option.some.inj h
    have e2 : b = y := Option.some.inj h2
    subst e1 e2
    rfl
  | a :: b :: l, i + 1, x, y, h, h2 => by
    have ih := sw_take (b :: l) i x y h h2
    show rg a b :: (sw (b :: l)).take (i + 1) = rg a b :: (sw (b :: l)).take i ++ [rg x y]
    rw [ih]
    rfl
theorem sw_mem : ∀ (ps : List Int) (B : Nat), (∀ x ∈ ps, x.natAbs < B) → ∀ r ∈ sw ps, r.1.natAbs < B ∧ r.2.natAbs < B
  | [], _, _, r, h => by simp [sw] at h
  | [_], _, _, r, h => by simp [sw] at h
  | x :: y :: l, B, hb, r, h => by
    rcases List.mem_cons.mp (show r ∈ rg x y :: sw (y :: l) from h) with z | z
    · have h1 := hb x List.mem_cons_self
      have h2 := hb y (List.mem_cons_of_mem _ List.mem_cons_self)
      rw [z]
      unfold rg
      constructor <;> (dsimp only; split <;> assumption)
    · exact sw_mem (y :: l) B (fun x hx => hb x (List.mem_cons_of_mem _ hx)) r z
end PM

/-! points taken out, in any order: one count -/
namespace RM
open PM
/-- of four points in a row, the middle two may be taken out -/
abbrev Taken (a b c d : Int) : Prop := ((rg a b).1 ≤ (rg b c).1 ∧ (rg b c).2 ≤ (rg a b).2) ∧ ((rg c d).1 ≤ (rg b c).1 ∧ (rg b c).2 ≤ (rg c d).2)
/-- up and down by turns -/
def ZZ : List Int → Prop
  | x :: y :: z :: r => ((x < y ∧ z < y) ∨ (y < x ∧ y < z)) ∧ ZZ (y :: z :: r)
  | [x, y] => x ≠ y
  | _ => True
inductive Step : List Int → Int × Int → List Int → Prop
  | here {a b c d : Int} {post : List Int} : Taken a b c d → Step (a :: b :: c :: d :: post) (rg b c) (a :: d :: post)
  | there {x : Int} {p q : List Int} {cy : Int × Int} : Step p cy q → Step (x :: p) cy (x :: q)
theorem ZZ.tail {x : Int} : ∀ {p : List Int}, ZZ (x :: p) → ZZ p
  | [], _ => trivial
  | [_], _ => trivial
  | [y, z], h => by
    have h1 := h.1
    show y ≠ z
    omega
  | y :: z :: u :: r, h => h.2
theorem Step.head {x : Int} {p q : List Int} {cy : Int × Int} (h : Step (x :: p) cy q) : ∃ q', q = x :: q' := by
  cases h with
  | here _ => exact ⟨_, rfl⟩
  | there _ => exact ⟨_, rfl⟩
theorem Step.len {p q : List Int} {cy : Int × Int} (h : Step p cy q) : p.length = q.length + 2 := by
  induction h with
  | here _ => simp only [List.length_cons]
  | there _ ih => simp only [List.length_cons]; omega
theorem rg_up {a b : Int} (h : a < b) : rg a b = (a, b) := by unfold rg; rw [if_neg (by omega), if_pos (by omega)]
theorem rg_down {a b : Int} (h : b < a) : rg a b = (b, a) := by unfold rg; rw [if_pos h, if_neg (by omega)]
/-- among points that go up and down -/
theorem taken_iff {a b c d : Int} (h : ZZ (a :: b :: c :: d :: [])) : Taken a b c d ↔ (a < b ∧ c < b ∧ c < d ∧ a ≤ c ∧ b ≤ d) ∨ (b < a ∧ b < c ∧ d < c ∧ c ≤ a ∧ d ≤ b) := by
  have h1 := h.1
  have h2 := h.2.1
  unfold Taken
  rcases h1 with ⟨x, y⟩ | ⟨x, y⟩
  · have z : c < d := by omega
    rw [rg_up x, rg_down y, rg_up z]
    dsimp only
    omega
  · have z : d < c := by omega
    rw [rg_down x, rg_up y, rg_down z]
    dsimp only
    omega
theorem ZZ.four {a b c d : Int} {r : List Int} (h : ZZ (a :: b :: c :: d :: r)) : ZZ (a :: b :: c :: d :: []) := by
  refine ⟨h.1, h.2.1, ?_⟩
  have := h.2.1
  show c ≠ d
  omega
theorem zz_here {a b c d : Int} : ∀ {post : List Int}, ZZ (a :: b :: c :: d :: post) → Taken a b c d → ZZ (a :: d :: post)
  | [], h, t => by
    rcases (taken_iff h.four).mp t with z | z
    · show a ≠ d
      omega
    · show a ≠ d
      omega
  | e :: r, h, t => by
    have h3 := h.2.2.1
    refine ⟨?_, h.2.2.2⟩
    rcases (taken_iff h.four).mp t with z | z <;> omega
theorem zz_cons {x y : Int} {p : List Int} (h : ZZ (x :: y :: p)) : x ≠ y := by
  cases p with
  | nil => exact h
  | cons z r => have := h.1; omega
theorem ZZ.step {p q : List Int} {cy : Int × Int} (h : Step p cy q) : ZZ p → ZZ q := by
  induction h with
  | here t => exact fun z => zz_here z t
  | @there x p q cy h ih =>
    intro z
    have zq := ih z.tail
    cases h with
    | @here a b c d post t =>
      have z1 := z.1
      have ti := (taken_iff z.tail.four).mp t
      refine ⟨?_, zq⟩
      rcases ti with t | t <;> omega
    | @there y p' q' cy' h' =>
      cases q' with
      | nil =>
        have := h'.len
        exact zz_cons z
      | cons u v =>
        cases p' with
        | nil => have := h'.len; simp at this
        | cons u' v' =>
          obtain ⟨v'', e⟩ := h'.head
          have e1 : u = u' := (List.cons.inj e).1
          subst e1
          exact ⟨z.1, zq⟩
/-- two ways to go on meet again -/
theorem diamond {p p1 : List Int} {c1 : Int × Int} (h1 : Step p c1 p1) : ∀ {p2 : List Int} {c2 : Int × Int}, Step p c2 p2 → ZZ p → (c1 = c2 ∧ p1 = p2) ∨ ∃ p3, Step p1 c2 p3 ∧ Step p2 c1 p3 := by
  have key : ∀ {a b c d : Int} {post : List Int} {p2 : List Int} {c2 : Int × Int}, Taken a b c d → Step (b :: c :: d :: post) c2 p2 → ZZ (a :: b :: c :: d :: post) →
      (rg b c = c2 ∧ a :: d :: post = a :: p2) ∨ ∃ p3, Step (a :: d :: post) c2 p3 ∧ Step (a :: p2) (rg b c) p3 := by
    intro a b c d post p2 c2 t h z
    have t1 := (taken_iff z.four).mp t
    cases h with
    | @here _ _ _ e post' t2 =>
      have t3 := (taken_iff z.tail.four).mp t2
      have ebd : b = d := by omega
      subst ebd
      refine .inl ⟨?_, rfl⟩
      have z1 := z.1
      rcases z1 with ⟨x, y⟩ | ⟨x, y⟩
      · rw [rg_down y, rg_up y]
      · rw [rg_up y, rg_down y]
    | @there _ _ q2 _ h2 =>
      cases h2 with
      | @here _ _ e f post' t2 =>
        have t3 := (taken_iff z.tail.tail.four).mp t2
        have za : ZZ (a :: d :: e :: f :: post') := zz_here z t
        have zb : ZZ (a :: b :: c :: f :: post') := ZZ.step (.there (.there (.here t2))) z
        exact .inr ⟨a :: f :: post', .here ((taken_iff za.four).mpr (by omega)), .here ((taken_iff zb.four).mpr (by omega))⟩
      | @there _ _ q3 _ h3 =>
        obtain ⟨q4, rfl⟩ := h3.head
        exact .inr ⟨a :: d :: q4, .there h3, .here t⟩
  induction h1 with
  | @here a b c d post t =>
    intro p2 c2 h2 z
    cases h2 with
    | here _ => exact .inl ⟨rfl, rfl⟩
    | @there _ _ q2 _ h2 => exact key t h2 z
  | @there x p q cy h1 ih =>
    intro p2 c2 h2 z
    cases h2 with
    | @here a b c d post t =>
      rcases key t h1 z with ⟨e1, e2⟩ | ⟨p3, s1, s2⟩
      · exact .inl ⟨e1.symm, e2.symm⟩
      · exact .inr ⟨p3, s2, s1⟩
    | @there _ _ q2 _ h2 =>
      rcases ih h2 z.tail with ⟨e1, e2⟩ | ⟨p3, s1, s2⟩
      · exact .inl ⟨e1, by rw [e2]⟩
      · exact .inr ⟨x :: p3, .there s1, .there s2⟩
inductive Run : List Int → List (Int × Int) → List Int → Prop
  | nil (p : List Int) : Run p [] p
  | cons {p q r : List Int} {c : Int × Int} {cs : List (Int × Int)} : Step p c q → Run q cs r → Run p (c :: cs) r
/-- nothing can be taken out -/
def NF (p : List Int) : Prop := ∀ c q, ¬ Step p c q
theorem Run.snoc {p q r : List Int} {c : Int × Int} {cs : List (Int × Int)} (h : Run p cs q) (s : Step q c r) : Run p (cs ++ [c]) r := by
  induction h with
  | nil p => exact .cons s (.nil _)
  | cons h1 _ ih => exact .cons h1 (ih s)
theorem Run.zz {p q : List Int} {cs : List (Int × Int)} (h : Run p cs q) : ZZ p → ZZ q := by
  induction h with
  | nil p => exact id
  | cons h1 _ ih => exact fun z => ih (ZZ.step h1 z)
theorem Run.len {p q : List Int} {cs : List (Int × Int)} (h : Run p cs q) : p.length = q.length + 2 * cs.length := by
  induction h with
  | nil p => simp
  | cons h1 _ ih => have := h1.len; rw [List.length_cons]; omega
theorem ends : ∀ (n : Nat) (p : List Int), p.length ≤ n → ∃ cs r, Run p cs r ∧ NF r
  | 0, p, h => ⟨[], p, .nil p, fun c q s => by have := s.len; omega⟩
  | n + 1, p, h => by
    by_cases e : ∃ c q, Step p c q
    · obtain ⟨c, q, s⟩ := e
      have := s.len
      obtain ⟨cs, r, h1, h2⟩ := ends n q (by omega)
      exact ⟨c :: cs, r, .cons s h1, h2⟩
    · exact ⟨[], p, .nil p, fun c q s => e ⟨c, q, s⟩⟩
/-- in whatever order points are taken out, the same cycles and the same rest come out -/
theorem unique : ∀ (n : Nat) (p : List Int), p.length ≤ n → ZZ p → ∀ {cs ds : List (Int × Int)} {r s : List Int}, Run p cs r → NF r → Run p ds s → NF s → r = s ∧ cs.Perm ds := by
  intro n
  induction n with
  | zero =>
    intro p hp z cs ds r s h1 n1 h2 n2
    cases h1 with
    | nil _ => cases h2 with
      | nil _ => exact ⟨rfl, .nil⟩
      | cons s2 _ => exact absurd s2 (n1 _ _)
    | cons s1 _ => have := s1.len; omega
  | succ n ih =>
    intro p hp z cs ds r s h1 n1 h2 n2
    cases h1 with
    | nil _ => cases h2 with
      | nil _ => exact ⟨rfl, .nil⟩
      | cons s2 _ => exact absurd s2 (n1 _ _)
    | @cons _ q1 _ c1 cs' s1 r1 =>
      cases h2 with
      | nil _ => exact absurd s1 (n2 _ _)
      | @cons _ q2 _ c2 ds' s2 r2 =>
        have l1 := s1.len
        have l2 := s2.len
        rcases diamond s1 s2 z with ⟨e1, e2⟩ | ⟨p3, t1, t2⟩
        · subst e1 e2
          obtain ⟨e, pm⟩ := ih q1 (by omega) (ZZ.step s1 z) r1 n1 r2 n2
          exact ⟨e, pm.cons _⟩
        · obtain ⟨es, t, r3, n3⟩ := ends p3.length p3 (Nat.le_refl _)
          obtain ⟨e1, m1⟩ := ih q1 (by omega) (ZZ.step s1 z) r1 n1 (.cons t1 r3) n3
          obtain ⟨e2, m2⟩ := ih q2 (by omega) (ZZ.step s2 z) r2 n2 (.cons t2 r3) n3
          refine ⟨e1.trans e2.symm, ?_⟩
          exact ((m1.cons c1).trans (.swap c2 c1 es)).trans (m2.symm.cons c2)
theorem one_count {p : List Int} (z : ZZ p) {cs ds : List (Int × Int)} {r s : List Int} (h1 : Run p cs r) (n1 : NF r) (h2 : Run p ds s) (n2 : NF s) : r = s ∧ cs.Perm ds := unique p.length p (Nat.le_refl _) z h1 n1 h2 n2
/-! ### the stack's way -/
theorem Step.suffix {p q : List Int} {cy : Int × Int} (h : Step p cy q) (l : List Int) : Step (p ++ l) cy (q ++ l) := by
  induction h with
  | here t => exact .here t
  | there _ ih => exact .there ih
theorem Step.prefix {p q : List Int} {cy : Int × Int} (h : Step p cy q) : ∀ l : List Int, Step (l ++ p) cy (l ++ q)
  | [] => h
  | x :: l => .there (h.prefix l)
theorem step_last {p : List Int} {cy : Int × Int} {q : List Int} (h : Step p cy q) : ∀ {m : List Int} {x : Int}, p = m ++ [x] → (∃ q', Step m cy q' ∧ q = q' ++ [x]) ∨ ∃ pre a b c, p = pre ++ [a, b, c, x] ∧ Taken a b c x := by
  induction h with
  | @here a b c d post t =>
    intro m x e
    rcases List.eq_nil_or_concat post with rfl | ⟨post', y, rfl⟩
    · have e2 : [a, b, c] ++ [d] = m ++ [x] := e
      obtain ⟨_, e4⟩ := List.append_inj' e2 rfl
      have e5 : d = x := (List.cons.inj e4).1
      subst e5
      exact .inr ⟨[], a, b, c, rfl, t⟩
    · have e2 : (a :: b :: c :: d :: post') ++ [y] = m ++ [x] := by rw [← e]; simp
      obtain ⟨e3, e4⟩ := List.append_inj' e2 rfl
      have e5 : y = x := (List.cons.inj e4).1
      subst e5 e3
      exact .inl ⟨a :: d :: post', .here t, by simp⟩
  | @there y p q cy h ih =>
    intro m x e
    cases m with
    | nil =>
      have e2 : p = [] := (List.cons.inj e).2
      subst e2
      cases h
    | cons y' m' =>
      obtain ⟨e1, e2⟩ := List.cons.inj e
      subst e1
      rcases ih e2 with ⟨q', s, e3⟩ | ⟨pre, a, b, c, e3, t⟩
      · exact .inl ⟨y :: q', .there s, by rw [e3]; rfl⟩
      · exact .inr ⟨y :: pre, a, b, c, by rw [e3]; rfl, t⟩
theorem nf_push {m : List Int} {x : Int} (h : NF m) (n : ∀ pre a b c, m ++ [x] = pre ++ [a, b, c, x] → ¬ Taken a b c x) : NF (m ++ [x]) := by
  intro cy q s
  rcases step_last s rfl with ⟨q', s', _⟩ | ⟨pre, a, b, c, e, t⟩
  · exact h _ _ s'
  · exact n pre a b c e t
theorem nf_prefix {m l : List Int} (h : NF (m ++ l)) : NF m := fun cy q s => h _ _ (s.suffix l)
/-- turning points go up and down -/
theorem tq_zz : ∀ (l : List Int) (b a : Int), a ≠ b → ∃ x s, tq b a l = x :: s ∧ (x > b ↔ a > b) ∧ x ≠ b ∧ ZZ (b :: x :: s)
  | [], b, a, h => ⟨a, [], rfl, Iff.rfl, h, fun z => h z.symm⟩
  | r :: l, b, a, h => by
    simp only [tq]
    by_cases e : a = r
    · rw [if_pos e]
      exact tq_zz l b a h
    · rw [if_neg e]
      by_cases bt : Btw a b r
      · rw [if_pos bt]
        obtain ⟨x, s, h1, h2, h3, h4⟩ := tq_zz l b r (by omega)
        exact ⟨x, s, h1, by omega, h3, h4⟩
      · rw [if_neg bt]
        obtain ⟨y, s, h1, h2, h3, h4⟩ := tq_zz l a r (fun z => e z.symm)
        refine ⟨a, y :: s, by rw [h1], Iff.rfl, h, ?_, h4⟩
        have h5 : y > a ↔ r > a := h2
        omega
theorem ts_zz : ∀ (l : List Int) (a : Int), ZZ (ts a l)
  | [], _ => trivial
  | r :: l, a => by
    simp only [ts]
    by_cases e : a = r
    · rw [if_pos e]
      exact ts_zz l a
    · rw [if_neg e]
      obtain ⟨x, s, h1, _, _, h4⟩ := tq_zz l a r (fun z => e z.symm)
      rw [h1]
      exact h4
theorem tp_zz (ns : List Int) : ZZ (tp ns) := by
  cases ns with
  | nil => exact trivial
  | cons a l => exact ts_zz l a
end RM

/-! heaps; the texts of data; a walk over two tuples -/
namespace KA
open PySem PySem.Spec PyProof.Rows L2
theorem same_new {H : Hp} {p : Addr} {o : HO} (h : H p = none) : Same H (upd H p o) := fun b x e => by
  rw [upd_ne (ne_of_none e h)]
  exact e
theorem same_again {H0 H : Hp} {p : Addr} {o : HO} (h : H0 p = none) (s : Same H0 H) : Same H0 (upd H p o) := fun b x e => by
  rw [upd_ne (ne_of_none e h)]
  exact s b x e
theorem SqT_same {K : PySem.W.Frag} {H H' : Hp} {a : Addr} {xs : List V} (e : Same H H') (h : SqT K H a xs) : SqT K H' a xs := by
  rcases h with (h | ⟨o, h⟩) | h
  · exact .inl (.inl (e _ _ h))
  · exact .inl (.inr ⟨o, e _ _ h⟩)
  · exact .inr h
theorem int_at {ns : List Int} {i : Nat} {x : V} (h : (ns.map V.int)[i]? = some x) : ∃ r, ns[i]? = some r ∧ x = .int r := by
  rw [List.getElem?_map] at h
  cases e : ns[i]? with
  | none => rw [e] at h; cases h
  | some r => rw [e] at h; exact ⟨r, rfl, (Option.some.inj h).symm⟩
theorem small3000 {n : Nat} (h : n ≤ 3000) : n < sizeLine := Nat.lt_of_le_of_lt h (by decide)
theorem at_int {ns : List Int} {i : Nat} {r : Int} (h : ns[i]? = some r) : (ns.map V.int)[i]? = some (.int r) := by
  rw [List.getElem?_map, h]
  rfl
end KA
namespace KB
end KB
namespace PH
open PySem PySem.Spec PyProof.Rows L2 KA
/-- a list or a tuple of xs stands at a -/
def Sq (K : PySem.W.Frag) (H : Hp) (a : Addr) (xs : List V) : Prop := SqL K H a xs ∨ SqT K H a xs
theorem Sq.same {K : PySem.W.Frag} {H H' : Hp} {a : Addr} {xs : List V} (h : Sq K H a xs) (e : Same H H') : Sq K H' a xs := h.elim (fun z => .inl (e.seq z)) (fun z => .inr (SqT_same e z))
/-- pairs of ints stand at the refs of xs -/
def PairsAt (H : Hp) : List V → List (Int × Int) → Prop
  | [], [] => True
  | x :: xs, r :: rs => (∃ p, x = .ref p ∧ H p = some (.tup [.int r.1, .int r.2])) ∧ PairsAt H xs rs
  | _, _ => False
theorem PairsAt.same {H H' : Hp} (e : Same H H') : ∀ {xs : List V} {rs : List (Int × Int)}, PairsAt H xs rs → PairsAt H' xs rs
  | [], [], _ => trivial
  | x :: xs, r :: rs, ⟨⟨p, h1, h2⟩, h3⟩ => ⟨⟨p, h1, e _ _ h2⟩, PairsAt.same e h3⟩
  | [], _ :: _, h => h.elim
  | _ :: _, [], h => h.elim
theorem PairsAt.length {H : Hp} : ∀ {xs : List V} {rs : List (Int × Int)}, PairsAt H xs rs → xs.length = rs.length
  | [], [], _ => rfl
  | x :: xs, r :: rs, ⟨_, h3⟩ => by rw [List.length_cons, List.length_cons, PairsAt.length h3]
  | [], _ :: _, h => h.elim
  | _ :: _, [], h => h.elim
theorem PairsAt.append {H : Hp} : ∀ {xs ys : List V} {rs ss : List (Int × Int)}, PairsAt H xs rs → PairsAt H ys ss → PairsAt H (xs ++ ys) (rs ++ ss)
  | [], _, [], _, _, h => h
  | x :: xs, _, r :: rs, _, ⟨h1, h2⟩, h => ⟨h1, PairsAt.append h2 h⟩
  | [], _, _ :: _, _, h, _ => h.elim
  | _ :: _, _, [], _, h, _ => h.elim
theorem PairsAt.take {H : Hp} : ∀ {xs : List V} {rs : List (Int × Int)} (n : Nat), PairsAt H xs rs → PairsAt H (xs.take n) (rs.take n)
  | [], [], n, _ => by simp [PairsAt]
  | x :: xs, r :: rs, 0, _ => trivial
  | x :: xs, r :: rs, n + 1, ⟨h1, h2⟩ => ⟨h1, PairsAt.take n h2⟩
  | [], _ :: _, _, h => h.elim
  | _ :: _, [], _, h => h.elim
theorem PairsAt.get {H : Hp} : ∀ {xs : List V} {rs : List (Int × Int)} {i : Nat} {x : V}, PairsAt H xs rs → xs[i]? = some x → ∃ p a b, x = .ref p ∧ H p = some (.tup [.int a, .int b])
  | x :: xs, r :: rs, 0, y, ⟨⟨p, h1, h2⟩, _⟩, e => ⟨p, r.1, r.2, by rw [← h1]; exact (Option.some.inj e).symm, h2⟩
  | x :: xs, r :: rs, i + 1, y, ⟨_, h⟩, e => PairsAt.get h e
  | [], [], i, y, _, e => by simp at e
  | [], _ :: _, _, _, h, _ => h.elim
  | _ :: _, [], _, _, h, _ => h.elim
/-! ### data -/
def dInts (ns : List Int) : List PyData := ns.map PyData.int
def dPairs (rs : List (Int × Int)) : List PyData := rs.map fun r => .tuple [.int r.1, .int r.2]
theorem dp_ints {K : PySem.W.Frag} {H : Hp} : ∀ ns : List Int, DpAll K H (ns.map V.int) (dInts ns)
  | [] => .nil
  | n :: ns => .cons (.int n) (dp_ints ns)
theorem dp_pairs {K : PySem.W.Frag} {H : Hp} : ∀ {xs : List V} {rs : List (Int × Int)}, PairsAt H xs rs → DpAll K H xs (dPairs rs)
  | [], [], _ => .nil
  | x :: xs, r :: rs, ⟨⟨p, h1, h2⟩, h3⟩ => by
    subst h1
    exact .cons (.tup (SqT.of h2) (.cons (.int _) (.cons (.int _) .nil))) (dp_pairs h3)
  | [], _ :: _, h => h.elim
  | _ :: _, [], h => h.elim
theorem lay_ints : ∀ ns : List Int, PyData.canLayAll0 (dInts ns) = true
  | [] => rfl
  | n :: ns => by
    show (PyData.canLay0 (.int n) && PyData.canLayAll0 (dInts ns)) = true
    rw [lay_ints ns]
    simp only [PyData.canLay0, Bool.and_true]
theorem lay_pairs : ∀ rs : List (Int × Int), PyData.canLayAll0 (dPairs rs) = true
  | [] => rfl
  | r :: rs => by
    show (PyData.canLay0 (.tuple [.int r.1, .int r.2]) && PyData.canLayAll0 (dPairs rs)) = true
    rw [lay_pairs rs]
    simp only [PyData.canLay0, PyData.canLayAll0, Bool.and_true]
theorem depth_pairs : ∀ rs : List (Int × Int), PyData.depthAll (dPairs rs) ≤ 3
  | [] => Nat.zero_le _
  | r :: rs => by
    have h := depth_pairs rs
    show max (PyData.depth (.tuple [.int r.1, .int r.2])) (PyData.depthAll (dPairs rs)) ≤ 3
    simp only [PyData.depth, PyData.depthAll]
    omega
theorem shaped_of {d : PyData} (h1 : d.canLay0 = true) (h2 : d.depth ≤ 64) : SeqAt.shaped d = true := by
  unfold SeqAt.shaped
  rw [h1, decide_eq_true h2]
  rfl
theorem shaped_lst (ns : List Int) : SeqAt.shaped (.list (dInts ns)) = true :=
  shaped_of (by simp only [PyData.canLay0, lay_ints]) (by have := KG.depth_all ns; show PyData.depth (.list (ns.map PyData.int)) ≤ 64; simp only [PyData.depth]; omega)
theorem shaped_tup (ns : List Int) : SeqAt.shaped (.tuple (dInts ns)) = true :=
  shaped_of (by simp only [PyData.canLay0, lay_ints]) (by have := KG.depth_all ns; show PyData.depth (.tuple (ns.map PyData.int)) ≤ 64; simp only [PyData.depth]; omega)
theorem shaped_prs (rs : List (Int × Int)) : SeqAt.shaped (.list (dPairs rs)) = true :=
  shaped_of (by simp only [PyData.canLay0, lay_pairs]) (by have := depth_pairs rs; simp only [PyData.depth]; omega)
theorem eqv_same {d : PyData} (h : SeqAt.shaped d = true) : PyData.eqv d d = true := by
  refine SeqAt.eqv_refl d ?_
  unfold SeqAt.shaped at h
  rw [Bool.and_eq_true] at h
  exact h.1
/-- what repr asks of data -/
structure Nice (d : PyData) : Prop where
  show' : d.showable = true
  dict : d.hasDict = false
  depth : d.depth ≤ 10
  fits : d.shown.length ≤ sizeLine
theorem nice_lst {ns : List Int} (h : ∀ n ∈ ns, n.natAbs < 2 ^ 39) (hl : ns.length ≤ 2000) : Nice (.list (dInts ns)) :=
  ⟨by simp only [PyData.showable]; exact KG.show_all ns fun m hm => Nat.lt_trans (h m hm) (by decide), by simp only [PyData.hasDict]; exact KG.nodict_all ns,
    by have := KG.depth_all ns; show PyData.depth (.list (ns.map PyData.int)) ≤ 10; simp only [PyData.depth]; omega, KG.repr_fits h hl⟩
theorem nice_tup {ns : List Int} (h : ∀ n ∈ ns, n.natAbs < 2 ^ 39) (hl : ns.length ≤ 2000) : Nice (.tuple (dInts ns)) :=
  ⟨by simp only [PyData.showable]; exact KG.show_all ns fun m hm => Nat.lt_trans (h m hm) (by decide), by simp only [PyData.hasDict]; exact KG.nodict_all ns,
    by have := KG.depth_all ns; show PyData.depth (.tuple (ns.map PyData.int)) ≤ 10; simp only [PyData.depth]; omega, by
      refine PyData.shown_fits (B := 13) (by decide) (by decide) ?_ ?_
      · simp only [PyData.leavesShort]
        exact KG.leaves_all ns fun n hn => Nat.lt_trans (h n hn) (by decide)
      · have := KG.weight_all ns h
        show PyData.weight (.tuple (ns.map PyData.int)) ≤ _
        simp only [PyData.weight]
        omega⟩
theorem leaf_int {a : Int} (h : a.natAbs < 2 ^ 39) : PyData.leavesShort 13 (.int a) = true := by
  have := KG.leaves_all [a] fun n hn => by rw [List.mem_singleton.mp hn]; exact Nat.lt_trans h (by decide)
  simpa only [List.map_cons, List.map_nil, PyData.leavesShortAll, Bool.and_true] using this
theorem show_int {a : Int} (h : a.natAbs < 2 ^ 39) : PyData.showable (.int a) = true := by
  have := KG.show_all [a] fun n hn => by rw [List.mem_singleton.mp hn]; exact Nat.lt_trans h (by decide)
  simpa only [List.map_cons, List.map_nil, PyData.showableAll, Bool.and_true] using this
theorem weight_int {a : Int} (h : a.natAbs < 2 ^ 39) : PyData.weight (.int a) + 1 ≤ 60 := by
  have := KG.weight_all [a] fun n hn => by rw [List.mem_singleton.mp hn]; exact h
  simp only [List.map_cons, List.map_nil, PyData.weightAll, List.length_singleton] at this
  omega
theorem pairs_show : ∀ rs : List (Int × Int), (∀ r ∈ rs, r.1.natAbs < 2 ^ 39 ∧ r.2.natAbs < 2 ^ 39) → PyData.showableAll (dPairs rs) = true
  | [], _ => rfl
  | r :: rs, h => by
    have h1 := h r List.mem_cons_self
    show (PyData.showable (.tuple [.int r.1, .int r.2]) && PyData.showableAll (dPairs rs)) = true
    rw [pairs_show rs fun x hx => h x (List.mem_cons_of_mem _ hx)]
    have e1 := show_int h1.1
    have e2 := show_int h1.2
    simp only [PyData.showable, PyData.showableAll] at e1 e2 ⊢
    rw [e1, e2]
    rfl
theorem pairs_dict : ∀ rs : List (Int × Int), PyData.hasDictAll (dPairs rs) = false
  | [] => rfl
  | r :: rs => by
    show (PyData.hasDict (.tuple [.int r.1, .int r.2]) || PyData.hasDictAll (dPairs rs)) = false
    rw [pairs_dict rs]
    simp only [PyData.hasDict, PyData.hasDictAll, Bool.or_self]
theorem pairs_leaves : ∀ rs : List (Int × Int), (∀ r ∈ rs, r.1.natAbs < 2 ^ 39 ∧ r.2.natAbs < 2 ^ 39) → PyData.leavesShortAll 13 (dPairs rs) = true
  | [], _ => rfl
  | r :: rs, h => by
    have h1 := h r List.mem_cons_self
    show (PyData.leavesShort 13 (.tuple [.int r.1, .int r.2]) && PyData.leavesShortAll 13 (dPairs rs)) = true
    rw [pairs_leaves rs fun x hx => h x (List.mem_cons_of_mem _ hx)]
    have e : PyData.leavesShort 13 (.tuple [.int r.1, .int r.2]) = PyData.leavesShortAll 13 [.int r.1, .int r.2] := by simp only [PyData.leavesShort]
    have e' : PyData.leavesShortAll 13 [.int r.1, .int r.2] = (PyData.leavesShort 13 (.int r.1) && (PyData.leavesShort 13 (.int r.2) && true)) := by simp only [PyData.leavesShortAll]
    rw [e, e', leaf_int h1.1, leaf_int h1.2]
    rfl
theorem pairs_weight : ∀ rs : List (Int × Int), (∀ r ∈ rs, r.1.natAbs < 2 ^ 39 ∧ r.2.natAbs < 2 ^ 39) → PyData.weightAll (dPairs rs) ≤ 130 * rs.length
  | [], _ => Nat.le_refl _
  | r :: rs, h => by
    have h1 := h r List.mem_cons_self
    have h2 := pairs_weight rs fun x hx => h x (List.mem_cons_of_mem _ hx)
    have w1 := weight_int h1.1
    have w2 := weight_int h1.2
    have e : PyData.weightAll (dPairs (r :: rs)) = PyData.weight (.tuple [.int r.1, .int r.2]) + 1 + PyData.weightAll (dPairs rs) := by
      show PyData.weightAll (_ :: _) = _
      simp only [PyData.weightAll]
      rfl
    have e2 : PyData.weight (.tuple [.int r.1, .int r.2]) = PyData.weight (.int r.1) + 1 + (PyData.weight (.int r.2) + 1 + 0) := by simp only [PyData.weight, PyData.weightAll]
    rw [e, e2, List.length_cons]
    omega
theorem nice_prs {rs : List (Int × Int)} (h : ∀ r ∈ rs, r.1.natAbs < 2 ^ 39 ∧ r.2.natAbs < 2 ^ 39) (hl : rs.length ≤ 2000) : Nice (.list (dPairs rs)) :=
  ⟨by simp only [PyData.showable]; exact pairs_show rs h, by simp only [PyData.hasDict]; exact pairs_dict rs, by have := depth_pairs rs; simp only [PyData.depth]; omega, by
    refine PyData.shown_fits (B := 13) (by decide) (by decide) ?_ ?_
    · simp only [PyData.leavesShort]
      exact pairs_leaves rs h
    · have := pairs_weight rs h
      simp only [PyData.weight]
      omega⟩
section
variable {X : Cx}
/-- repr of data at an address, while no repr is under way -/
def rReprD (K : PySem.W.Frag) : List V → Hp → VK → Prop := fun vs H Q => ∃ (a : Addr) (d : PyData), vs = [V.ref a] ∧ Dp K H (.ref a) d ∧ Nice d ∧ Q (.str d.shown) H
theorem cr_reprD (hg : X.A.guards = some []) (hu : X.A.units + 100 < cLine) : CallR X (.builtin "repr") (rReprD X.K) := by
  intro pins s σ H vs us Q I r h
  obtain ⟨a, d, rfl, hd, nc, q⟩ := h
  rw [Vals.ref1 r]
  obtain ⟨as, rd⟩ := Dp.reads I d (.ref a) (.ref a) hd rfl
  refine repr_of_reads' rd nc.show' (PyData.noDict_hsm nc.dict) hg (by have := nc.depth; omega) (fun _ _ e => e) (fun g u tk k => ?_) nc.fits
  exact ⟨.str d.shown, H, I.kept k, ⟨u, rfl⟩, q⟩
theorem cr_reprB : CallR X (.builtin "repr") (fun vs H Q => ∃ b : Bool, vs = [V.bl b] ∧ Q (.str (if b = true then "True" else "False")) H) := by
  intro pins s σ H vs us Q I r h
  obtain ⟨b, rfl, q⟩ := h
  obtain ⟨u, rfl, ru⟩ := vals1 r
  cases ru
  exact PySem.P.repr_of_bool ⟨.str _, H, I.tok _, ⟨_, rfl⟩, q⟩
end
section
variable {K : PySem.W.Frag} {a b : Addr} {xs ys : List V}
theorem walk_tups {n : Nat} (hn : n = min xs.length ys.length) : Walk (RZ.ItzT K a b) n (fun H => SqT K H a xs ∧ SqT K H b ys) (YPair (fun i => xs[i]?) (fun i => ys[i]?)) := by
  refine ⟨fun i H hi q => ⟨xs, ys, xs[i]'(by omega), ys[i]'(by omega), q.1, q.2, List.getElem?_eq_getElem (by omega), List.getElem?_eq_getElem (by omega)⟩, fun H q => ⟨xs, ys, q.1, q.2, by omega⟩, fun i H v H' _ q y => ?_⟩
  obtain ⟨T, x, z, h1, h2, h3, h4, h5⟩ := y
  exact ⟨T, x, z, h1, h2, h3, h4 xs q.1, h5 ys q.2⟩
end
/-- two promises of one def -/
theorem both {P : Program} {w : World} {K : PySem.W.Frag} {mg : Str → Option Value} {base : Heap} {CX : CXT} {k : Nat} {f : Addr} {fd : FuncData} {ps : List Str} {sp sp' : Sp}
    (F : FnOk P w K mg base CX k f fd ps sp) (G : FnOk P w K mg base CX k f fd ps sp') : FnOk P w K mg base CX k f fd ps (fun vs H Q E => sp vs H Q E ∨ sp' vs H Q E) :=
  ⟨fun vs H Q E h => h.elim (F.len vs H Q E) (G.len vs H Q E), fun A outer s H args us vs Q E hr e0 hb r h => h.elim (F.run A outer s H args us vs Q E hr e0 hb r) (G.run A outer s H args us vs Q E hr e0 hb r)⟩
end PH

namespace KA
open PySem PySem.Spec PyProof.Rows L2
def topS (i : Nat) : Stmt := PySem.Challenge.pw_wearswings_k83_counters.main.body.getD i (.Pass ⟨0, 0, 0, 0⟩)
end KA
namespace KD
open PySem PySem.Spec PyProof.Rows L2 KA
abbrev sFeed : Stmt := topS 23
abbrev sTake : Stmt := topS 24
abbrev sPick : Stmt := topS 25
theorem scFeed : FnScope ["script", "k", "cell", "digits", "state"] ["script", "k"] (defScope sFeed) := ⟨rfl, rfl, rfl, by decide +kernel, rfl, by decide +kernel, by decide +kernel⟩
theorem scTake : FnScope ["feed", "many", "digit"] ["feed", "many"] (defScope sTake) := ⟨rfl, rfl, rfl, by decide +kernel, rfl, by decide +kernel, by decide +kernel⟩
theorem scPick : FnScope ["feed", "some"] ["feed", "some"] (defScope sPick) := ⟨rfl, rfl, rfl, by decide +kernel, rfl, by decide +kernel, by decide +kernel⟩
/-- a feed stands at p -/
def FeedAt (H : Hp) (p : Addr) : Prop := ∃ d st : Int, 0 ≤ d ∧ 0 ≤ st ∧ st < 2305843009213693951 ∧ H p = some (.lst [.int d, .int st])
/-- all that was tracked is as it was, but what stands at f -/
def Ch (f : Addr) (H H' : Hp) : Prop := ∀ b o, b ≠ f → H b = some o → H' b = some o
theorem Ch.refl (f : Addr) (H : Hp) : Ch f H H := fun _ _ _ e => e
theorem Ch.trans {f : Addr} {H H1 H2 : Hp} (a : Ch f H H1) (b : Ch f H1 H2) : Ch f H H2 := fun c o n e => b c o n (a c o n e)
theorem Ch.of_same {f : Addr} {H H' : Hp} (s : Same H H') : Ch f H H' := fun c o _ e => s c o e
theorem Ch.put {f : Addr} {H : Hp} {o : HO} : Ch f H (upd H f o) := fun b x n e => by rw [upd_ne n]; exact e
theorem Ch.new {f p : Addr} {H : Hp} {o : HO} (h : H p = none) : Ch f H (upd H p o) := .of_same (same_new h)
theorem Ch.again {f p : Addr} {H0 H : Hp} {o : HO} (h : H0 p = none) (c : Ch f H0 H) : Ch f H0 (upd H p o) := fun b x n e => by
  rw [upd_ne (ne_of_none e h)]
  exact c b x n e
theorem Ch.free {f p : Addr} {H H' : Hp} (c : Ch f H H') (n : p ≠ f) (h : H' p = none) : H p = none := by
  cases e : H p with
  | none => rfl
  | some o =>
    rw [c p o n e] at h
    cases h
theorem Ch.seq {K : PySem.W.Frag} {f : Addr} {H H' : Hp} {a : Addr} {xs : List V} (c : Ch f H H') (n : a ≠ f) (h : SqL K H a xs) : SqL K H' a xs := by
  rcases h with (h | ⟨o, h⟩) | h
  · exact .inl (.inl (c _ _ n h))
  · exact .inl (.inr ⟨o, c _ _ n h⟩)
  · exact .inr h
/-- what stood ahead of the feed is as it was -/
theorem Ch.old {f : Addr} {H0 H H' : Hp} (c : Ch f H H') (hf : H0 f = none) (s : Same H0 H) : Same H0 H' := fun b o e => c b o (ne_of_none e hf) (s b o e)
theorem FeedAt.ne {H : Hp} {f p : Addr} (h : FeedAt H f) (n : H p = none) : p ≠ f := by
  obtain ⟨d, st, _, _, _, e⟩ := h
  exact fun z => by rw [z, e] at n; cases n
theorem FeedAt.upd {H : Hp} {f p : Addr} {o : HO} (h : FeedAt H f) (n : p ≠ f) : FeedAt (upd H p o) f := by
  obtain ⟨d, st, h1, h2, h3, e⟩ := h
  exact ⟨d, st, h1, h2, h3, by rw [upd_ne n.symm]; exact e⟩
theorem FeedAt.same {H H' : Hp} {f : Addr} (h : FeedAt H f) (s : Same H H') : FeedAt H' f := by
  obtain ⟨d, st, h1, h2, h3, e⟩ := h
  exact ⟨d, st, h1, h2, h3, s _ _ e⟩
section
variable {P : Program} {w : World} {K : PySem.W.Frag} {mg : Str → Option Value} {base : Heap}
def spFeed (K : PySem.W.Frag) : Sp := fun vs H Q _ => ∃ (a : Addr) (ns : List Int) (k : Int), vs = [.ref a, .int k] ∧ SqL K H a (ns.map V.int) ∧ 0 ≤ k ∧ k ≤ 100 ∧
  ∀ H' p, Same H H' → H p = none → FeedAt H' p → Q (.ref p) H'
theorem ok_feed {f : Addr} {fd : FuncData} {k : Nat} (F : Fun K "_law_feed" "_law_feed" sFeed f fd) (ml : mg "len" = none) (mm : mg "max" = none) (ma : mg "abs" = none) : FnOk P w K mg base CX0 (k + 1) f fd ["script", "k"] (spFeed K) := by
  refine F.ok scFeed (fun vs H Q E h => ?_) (fun cdv A outer s H vs Q E hr h => ?_)
  · obtain ⟨a, ns, z, rfl, _⟩ := h
    rfl
  · obtain ⟨a, ns, z, rfl, hS, h0, h1, q⟩ := h
    refine ⟨_, pss_cons (ps_set (i := 2) scFeed.nd rfl (.inl rfl) (pe_ifExp (pt_cmpR op_lt (pv 1) (pe_callB call_len_seq (by rfl) ml PySem.boot_len (pa_cons (pv 0) pa_nil)) (nomark _)) (pe_ix ix_list (pv 0) (pv 1) (fun _ _ => rfl)) (pe_op op_add (pe_op op_mul pe_int (pv 1)) pe_int)))
      (pss_cons (ps_set (i := 3) scFeed.nd rfl (.inl rfl) (pe_callB (call_max2 rfl) (by rfl) mm (by decide +kernel) (pa_cons pe_int (pa_cons (pe_op op_sub (pe_callB call_abs (by rfl) ma (by decide +kernel) (pa_cons (pv 2) pa_nil)) (pe_op op_pow pe_int pe_int)) pa_nil))))
      (pss_cons (ps_set (i := 4) scFeed.nd rfl (.inl rfl) (pe_op op_mod (pe_op op_add (pe_op op_add (pe_op op_mul (pv 2) pe_int) (pe_op op_mul pe_int (pv 1))) pe_int) pe_int))
      (pss_one (ps_ret (pe_lst (pa_cons (pv 3) (pa_cons (pv 4) pa_nil))))))), ?_⟩
    refine ⟨.int z, rfl, .ref a, rfl, a, ns.map V.int, rfl, .inl hS, z, _, rfl, rfl, _, rfl, ite2 (fun e => ?_) (fun e => ?_)⟩
    · have hz : z < ((ns.map V.int).length : Nat) := of_decide_eq_true e
      rw [List.length_map] at hz
      obtain ⟨j, rfl⟩ : ∃ j : Nat, z = (j : Int) := ⟨z.toNat, by omega⟩
      have hj : j < ns.length := by omega
      have gj : (ns.map V.int)[j]? = some (.int ns[j]) := by rw [List.getElem?_map, List.getElem?_eq_getElem hj]; rfl
      refine ⟨.ref a, rfl, .int j, rfl, a, _, _, _, rfl, rfl, hS, atI_nat gj, ?_⟩
      refine ⟨_, rfl, _, rfl, 10, 18, rfl, rfl, ⟨by decide, by decide, by decide⟩, _, _, rfl, rfl, 0, _, rfl, ?_⟩
      refine ⟨_, rfl, _, _, rfl, rfl, .inr ⟨by decide, by decide⟩, .int _, rfl, 7919, _, rfl, rfl, .inl ⟨by decide, by decide⟩, _, _, rfl, rfl, _, _, rfl, rfl, _, _, rfl, rfl, by show (0 : Int) < 2305843009213693951; decide, ?_⟩
      refine ⟨_, rfl, _, rfl, by show 2 ≤ sizeLine; decide, fun p np => q _ p (same_new np) np ⟨_, _, ?_, Int.emod_nonneg _ (by decide), Int.emod_lt_of_pos _ (by decide), upd_same⟩⟩
      split <;> omega
    · refine ⟨.int z, rfl, 83, z, rfl, rfl, .inl ⟨by decide, by decide⟩, _, _, rfl, rfl, ?_⟩
      refine ⟨_, rfl, _, rfl, 10, 18, rfl, rfl, ⟨by decide, by decide, by decide⟩, _, _, rfl, rfl, 0, _, rfl, ?_⟩
      refine ⟨_, rfl, _, _, rfl, rfl, .inr ⟨by decide, by decide⟩, .int _, rfl, 7919, _, rfl, rfl, .inl ⟨by decide, by decide⟩, _, _, rfl, rfl, _, _, rfl, rfl, _, _, rfl, rfl, by show (0 : Int) < 2305843009213693951; decide, ?_⟩
      refine ⟨_, rfl, _, rfl, by show 2 ≤ sizeLine; decide, fun p np => q _ p (same_new np) np ⟨_, _, ?_, Int.emod_nonneg _ (by decide), Int.emod_lt_of_pos _ (by decide), upd_same⟩⟩
      split <;> omega
def spTake : Sp := fun vs H Q _ => ∃ (f : Addr) (m : Int), vs = [.ref f, .int m] ∧ 0 < m ∧ m < 2 ^ 64 ∧ FeedAt H f ∧ ∀ H' r, Ch f H H' → FeedAt H' f → 0 ≤ r → r < m → Q (.int r) H'
theorem ok_take {f : Addr} {fd : FuncData} {k : Nat} (F : Fun K "_law_take" "_law_take" sTake f fd) : FnOk P w K mg base CX0 (k + 1) f fd ["feed", "many"] spTake := by
  refine F.ok scTake (fun vs H Q E h => ?_) (fun cdv A outer s H vs Q E hr h => ?_)
  · obtain ⟨a, m, rfl, _⟩ := h
    rfl
  · obtain ⟨f, m, rfl, m0, m1, ⟨d, st, d0, t0, t1, hf⟩, q⟩ := h
    refine ⟨_, pss_cons (ps_if (pt_cmpR op_gt (pe_ix ix_list (pv 0) pe_int (fun _ _ => rfl)) pe_int (nomark _))
        (pss_cons (ps_set (i := 2) scTake.nd rfl (.inl rfl) (pe_op op_mod (pe_ix ix_list (pv 0) pe_int (fun _ _ => rfl)) (pv 1)))
          (pss_cons (ps_asg (pe_op op_fdivW (pe_ix ix_list (pv 0) pe_int (fun _ _ => rfl)) (pv 1)) (pg_sub (pv 0) pe_int set_list)) (pss_one (ps_ret (pv 2))))) pss_nil)
      (pss_cons (ps_asg (pe_op op_mod (pe_op op_add (pe_op op_mul (pe_ix ix_list (pv 0) pe_int (fun _ _ => rfl)) pe_int) pe_int) pe_int) (pg_sub (pv 0) pe_int set_list))
      (pss_one (ps_ret (pe_op op_mod (pe_op op_fdiv (pe_ix ix_list (pv 0) pe_int (fun _ _ => rfl)) pe_int) (pv 1))))), ?_⟩
    have a0 : atI [V.int d, V.int st] 0 = some (.int d) := rfl
    have a1 : atI [V.int d, V.int st] 1 = some (.int st) := rfl
    refine ⟨.ref f, rfl, f, _, 0, .int d, rfl, rfl, SqL.of hf, a0, d, 0, rfl, rfl, _, rfl, ite2 (fun e => ?_) (fun e => ?_)⟩
    · have hd : d > 0 := of_decide_eq_true e
      refine ⟨.ref f, rfl, f, _, 0, .int d, rfl, rfl, SqL.of hf, a0, .int m, rfl, d, m, rfl, rfl, m0, ?_⟩
      refine ⟨.ref f, rfl, f, _, 0, .int d, rfl, rfl, SqL.of hf, a0, .int m, rfl, d, m, rfl, rfl, wide_div (b := 64) m0 (by omega) (by decide) (by decide), ?_⟩
      refine ⟨.ref f, rfl, f, _, 0, 0, rfl, rfl, hf, rfl, .int (d % m), rfl, ?_⟩
      refine q _ _ Ch.put ⟨d / m, st, Int.ediv_nonneg d0 (by omega), t0, t1, upd_same⟩ (Int.emod_nonneg _ (by omega)) (Int.emod_lt_of_pos _ m0)
    · refine ⟨.ref f, rfl, f, _, 1, .int st, rfl, rfl, SqL.of hf, a1, st, 6364136223846793005, rfl, rfl, .inr ⟨by decide, by decide⟩, _, _, rfl, rfl, _, _, rfl, rfl, by show (0 : Int) < 2305843009213693951; decide, ?_⟩
      refine ⟨.ref f, rfl, f, _, 1, 1, rfl, rfl, hf, rfl, ?_⟩
      refine ⟨.ref f, rfl, f, _, 1, _, rfl, rfl, SqL.of upd_same, rfl, _, 65536, rfl, rfl, ⟨by decide, by decide⟩, .int m, rfl, _, m, rfl, rfl, m0, ?_⟩
      exact q _ _ Ch.put ⟨d, _, d0, Int.emod_nonneg _ (by decide), Int.emod_lt_of_pos _ (by decide), upd_same⟩ (Int.emod_nonneg _ (by omega)) (Int.emod_lt_of_pos _ m0)
def spPick (K : PySem.W.Frag) : Sp := fun vs H Q _ => ∃ (f c : Addr) (xs : List V), vs = [.ref f, .ref c] ∧ c ≠ f ∧ SqL K H c xs ∧ 0 < xs.length ∧ xs.length ≤ 1000 ∧ FeedAt H f ∧
  ∀ H' (j : Nat) v, xs[j]? = some v → Ch f H H' → FeedAt H' f → Q v H'
theorem ok_pick {f fT : Addr} {fd fdT : FuncData} {k : Nat} (F : Fun K "_law_pick" "_law_pick" sPick f fd) (FT : Fun K "_law_take" "_law_take" sTake fT fdT) (gT : mg "_law_take" = some (.ref fT)) (bT : Binds K fdT ["feed", "many"] []) (ml : mg "len" = none) :
    FnOk P w K mg base CX0 (k + 2) f fd ["feed", "some"] (spPick K) := by
  have GT : FnOk P w K mg base CX0 (k + 1) fT fdT ["feed", "many"] spTake := ok_take FT
  refine F.ok scPick (fun vs H Q E h => ?_) (fun cdv A outer s H vs Q E hr h => ?_)
  · obtain ⟨a, m, xs, rfl, _⟩ := h
    rfl
  · obtain ⟨f, c, xs, rfl, ncf, hS, l0, l1, hf, q⟩ := h
    refine ⟨_, pss_one (ps_ret (pe_ix ix_list (pv 1) (pe_call GT hr (by rfl) gT FT.kp bT .nil pass0 (pa_cons (pv 0) (pa_cons (pe_callB call_len_seq (by rfl) ml PySem.boot_len (pa_cons (pv 1) pa_nil)) pa_nil))) (fun _ _ => rfl))), ?_⟩
    refine ⟨.ref c, rfl, .ref f, rfl, .ref c, rfl, c, xs, rfl, .inl hS, f, _, rfl, by omega, by omega, hf, fun H' r ch fe r0 r1 => ?_⟩
    obtain ⟨j, rfl⟩ : ∃ j : Nat, r = (j : Int) := ⟨r.toNat, by omega⟩
    have hj : j < xs.length := by omega
    exact ⟨c, xs, _, xs[j], rfl, rfl, ch.seq ncf hS, atI_nat (List.getElem?_eq_getElem hj), q H' j _ (List.getElem?_eq_getElem hj) ch fe⟩
end
end KD
namespace KL
open PySem PySem.Spec PyProof.Rows L2 KA KD
abbrev sLoad : Stmt := topS 26
theorem scLoad : FnScope ["feed", "most", "size", "way", "few", "turn", "middle", "step", "found"] ["feed", "most"] (defScope sLoad) := ⟨rfl, rfl, rfl, by decide +kernel, rfl, by decide +kernel, by decide +kernel⟩
theorem small100 {n : Nat} (h : n ≤ 100) : n < sizeLine := Nat.lt_of_le_of_lt h (by decide)
/-- a list of i small ints stands at D, the rest is as it was -/
def Grown (f D : Addr) (H0 : Hp) (i : Nat) (H : Hp) : Prop := Ch f H0 H ∧ FeedAt H f ∧ ∃ ns : List Int, ns.length = i ∧ (∀ n ∈ ns, n.natAbs < 2 ^ 32) ∧ H D = some (.lst (ns.map V.int))
theorem Grown.start {f D : Addr} {H0 H : Hp} (c : Ch f H0 H) (fe : FeedAt H f) (n0 : H0 D = none) (nf : D ≠ f) : Grown f D H0 0 (upd H D (.lst [])) :=
  ⟨Ch.again n0 c, fe.upd nf, [], rfl, fun _ z => (List.not_mem_nil z).elim, upd_same⟩
theorem Grown.turn {f D : Addr} {H0 H : Hp} {i : Nat} (g : Grown f D H0 i H) (n0 : H0 D = none) (nf : D ≠ f) (hi : i ≤ 100) {H1 : Hp} (c : Ch f H H1) (fe : FeedAt H1 f) {r : Int} (hr : r.natAbs < 2 ^ 32) :
    ∃ acc, H1 D = some (.lst acc) ∧ acc.length < sizeLine ∧ Grown f D H0 (i + 1) (upd H1 D (.lst (acc ++ [.int r]))) := by
  obtain ⟨c0, _, ns, hl, hb, e⟩ := g
  refine ⟨ns.map V.int, c _ _ nf e, by rw [List.length_map]; exact small100 (by omega), Ch.again n0 (c0.trans c), fe.upd nf, ns ++ [r], by rw [List.length_append, List.length_singleton, hl], fun n hn => ?_, ?_⟩
  · rcases List.mem_append.mp hn with z | z
    · exact hb n z
    · rw [List.mem_singleton.mp z]; exact hr
  · rw [upd_same, List.map_append]
    rfl
theorem four {a b c d : Int} {j : Nat} {v : V} (h : [V.int a, V.int b, V.int c, V.int d][j]? = some v) : v = .int a ∨ v = .int b ∨ v = .int c ∨ v = .int d := by
  match j, h with
  | 0, h => exact .inl (Option.some.inj h).symm
  | 1, h => exact .inr (.inl (Option.some.inj h).symm)
  | 2, h => exact .inr (.inr (.inl (Option.some.inj h).symm))
  | 3, h => exact .inr (.inr (.inr (Option.some.inj h).symm))
  | n + 4, h => simp at h
theorem three {a b c : Int} {j : Nat} {v : V} (h : [V.int a, V.int b, V.int c][j]? = some v) : v = .int a ∨ v = .int b ∨ v = .int c := by
  match j, h with
  | 0, h => exact .inl (Option.some.inj h).symm
  | 1, h => exact .inr (.inl (Option.some.inj h).symm)
  | 2, h => exact .inr (.inr (Option.some.inj h).symm)
  | n + 3, h => simp at h
section
variable {P : Program} {w : World} {K : PySem.W.Frag} {mg : Str → Option Value} {base : Heap}
def spLoad : Sp := fun vs H Q _ => ∃ (f : Addr) (most : Int), vs = [.ref f, .int most] ∧ 0 ≤ most ∧ most ≤ 99 ∧ FeedAt H f ∧
  ∀ H' p (ns : List Int), Ch f H H' → FeedAt H' f → H p = none → H' p = some (.lst (ns.map V.int)) → (ns.length : Int) ≤ most → (∀ n ∈ ns, n.natAbs < 2 ^ 32) → Q (.ref p) H'
theorem ok_load {f fT fP : Addr} {fd fdT fdP : FuncData} {k : Nat} (F : Fun K "_law_load" "_law_load" sLoad f fd) (FT : Fun K "_law_take" "_law_take" sTake fT fdT) (gT : mg "_law_take" = some (.ref fT)) (bT : Binds K fdT ["feed", "many"] [])
    (FP : Fun K "_law_pick" "_law_pick" sPick fP fdP) (gP : mg "_law_pick" = some (.ref fP)) (bP : Binds K fdP ["feed", "some"] []) (ml : mg "len" = none) (mr : mg "range" = none) (mm : mg "min" = none) :
    FnOk P w K mg base CX0 (k + 3) f fd ["feed", "most"] spLoad := by
  have GT : FnOk P w K mg base CX0 (k + 1) fT fdT ["feed", "many"] spTake := ok_take FT
  have GP : FnOk P w K mg base CX0 (k + 2) fP fdP ["feed", "some"] (spPick K) := ok_pick FP FT gT bT ml
  refine F.ok scLoad (fun vs H Q E h => ?_) (fun cdv A outer s H vs Q E hr h => ?_)
  · obtain ⟨a, m, rfl, _⟩ := h
    rfl
  · obtain ⟨f, most, rfl, m0, m1, hf, q⟩ := h
    have hrT := hr.mono (Nat.le_succ (k + 1))
    refine ⟨_, pss_cons (ps_set (i := 2) scLoad.nd rfl (.inl rfl) (pe_call GT hrT (by rfl) gT FT.kp bT .nil pass0 (pa_cons (pv 0) (pa_cons (pe_op op_add (pv 1) pe_int) pa_nil))))
      (pss_cons (ps_set (i := 3) scLoad.nd rfl (.inl rfl) (pe_call GT hrT (by rfl) gT FT.kp bT .nil pass0 (pa_cons (pv 0) (pa_cons pe_int pa_nil))))
      (pss_cons (ps_if (pt_cmpR op_lt (pv 3) pe_int (nomark _))
        (pss_cons (ps_set (i := 4) scLoad.nd rfl (.inr rfl) (pe_call GP hr (by rfl) gP FP.kp bP .nil pass0 (pa_cons (pv 0) (pa_cons (pe_lst (pa_cons pe_int (pa_cons pe_int (pa_cons pe_int (pa_cons pe_int pa_nil))))) pa_nil))))
          (pss_one (ps_ret (pe_lc (own := [("turn", 5)]) (g := gName 5) rfl scLoad.nd (pi_range1 rfl mr (pa_cons (pv 2) pa_nil)) (blkOk_by (own := [("turn", 5)]) (N := ["feed", "most", "size", "way", "few", "turn", "middle", "step", "found"]) (sc := defScope sLoad) (by decide +kernel))
            (fun _ _ _ _ _ => pg_name (i := 5) scLoad.nd rfl (Or.inl rfl) (Or.inr rfl)) (fun _ _ _ _ _ => pts_nil)
            (fun _ _ _ _ _ => pe_call GT hrT (by rfl) gT FT.kp bT .nil pass0 (pa_cons (pv 0) (pa_cons (pv 4) pa_nil))))))) pss_nil)
      (pss_cons (ps_if (pt_cmpR op_eq (pv 3) pe_int (nomark _))
          (pss_one (ps_ret (pe_lc (own := [("turn", 5)]) (g := gName 5) rfl scLoad.nd (pi_range1 rfl mr (pa_cons (pv 2) pa_nil)) (blkOk_by (own := [("turn", 5)]) (N := ["feed", "most", "size", "way", "few", "turn", "middle", "step", "found"]) (sc := defScope sLoad) (by decide +kernel))
            (fun _ _ _ _ _ => pg_name (i := 5) scLoad.nd rfl (Or.inl rfl) (Or.inr rfl)) (fun _ _ _ _ _ => pts_nil)
            (fun _ _ _ _ _ => pe_op op_sub (pe_call GT hrT (by rfl) gT FT.kp bT .nil pass0 (pa_cons (pv 0) (pa_cons (pe_op op_add (pe_op op_mul pe_int (pe_op op_pow pe_int pe_int)) pe_int) pa_nil))) (pe_op op_pow pe_int pe_int))))) pss_nil)
      (pss_cons (ps_if (pt_cmpR op_eq (pv 3) pe_int (nomark _))
          (pss_cons (ps_par3 (i := 6) (j := 7) (l := 8) (by rfl) scLoad.nd rfl rfl rfl (by decide) (by decide) (by decide) rfl rfl rfl
              (pa_cons (pe_call GT hrT (by rfl) gT FT.kp bT .nil pass0 (pa_cons (pv 0) (pa_cons (pe_op op_add (pv 2) pe_int) pa_nil)))
                (pa_cons (pe_call GP hr (by rfl) gP FP.kp bP .nil pass0 (pa_cons (pv 0) (pa_cons (pe_lst (pa_cons pe_int (pa_cons pe_int (pa_cons (pe_un un_neg pe_int) pa_nil)))) pa_nil)))
                  (pa_cons (pe_lst pa_nil) pa_nil))) (by rfl))
          (pss_cons (ps_for PassesOwn.never rfl (pi_range1 rfl mr (pa_cons (pv 2) pa_nil)) (pg_name (i := 5) scLoad.nd rfl (.inl rfl))
              (pss_cons (ps_expr (pe_bm PySem.F.plainAttrs_list PySem.F.slot_list_append PySem.F.type_list_append mt_append (pv 8) (pa_cons (pe_op op_mul (pv 7) (pe_callB (call_min2 rfl) (by rfl) mm (by decide +kernel) (pa_cons (pv 5) (pa_cons (pv 6) pa_nil)))) pa_nil)))
                (pss_one (ps_set (i := 7) scLoad.nd rfl (.inl rfl) (pe_op op_sub pe_int (pv 7))))))
            (pss_one (ps_ret (pv 8))))) pss_nil)
      (pss_cons (ps_if (pt_cmpR op_eq (pv 3) pe_int (nomark _))
          (pss_one (ps_ret (pe_lc (own := [("turn", 5)]) (g := gName 5) rfl scLoad.nd (pi_range1 rfl mr (pa_cons (pv 2) pa_nil)) (blkOk_by (own := [("turn", 5)]) (N := ["feed", "most", "size", "way", "few", "turn", "middle", "step", "found"]) (sc := defScope sLoad) (by decide +kernel))
            (fun _ _ _ _ _ => pg_name (i := 5) scLoad.nd rfl (Or.inl rfl) (Or.inr rfl)) (fun _ _ _ _ _ => pts_nil)
            (fun _ _ _ _ _ => pe_op op_sub (pe_op op_fdiv (pv 5) pe_int) (pe_call GT hrT (by rfl) gT FT.kp bT .nil pass0 (pa_cons (pv 0) (pa_cons pe_int pa_nil))))))) pss_nil)
      (pss_one (ps_ret (pe_lc (own := [("turn", 5)]) (g := gName 5) rfl scLoad.nd (pi_range1 rfl mr (pa_cons (pv 2) pa_nil)) (blkOk_by (own := [("turn", 5)]) (N := ["feed", "most", "size", "way", "few", "turn", "middle", "step", "found"]) (sc := defScope sLoad) (by decide +kernel))
            (fun _ _ _ _ _ => pg_name (i := 5) scLoad.nd rfl (Or.inl rfl) (Or.inr rfl)) (fun _ _ _ _ _ => pts_nil)
            (fun _ _ _ _ _ => pe_call GP hr (by rfl) gP FP.kp bP .nil pass0 (pa_cons (pv 0) (pa_cons (pe_lst (pa_cons pe_int (pa_cons (pe_un un_neg pe_int) (pa_cons pe_int (pa_cons pe_int pa_nil))))) pa_nil))))))))))), ?_⟩
    -- size
    refine ⟨.ref f, rfl, .int most, rfl, most, 1, rfl, rfl, f, _, rfl, by omega, by omega, hf, fun H1 sz c1 f1 z0 z1 => ?_⟩
    -- way
    refine ⟨.ref f, rfl, f, _, rfl, by decide, by decide, f1, fun H2 way c2 f2 w0 w1 => ?_⟩
    have cc := c1.trans c2
    obtain ⟨n, rfl⟩ : ∃ n : Nat, sz = (n : Int) := ⟨sz.toNat, by omega⟩
    have hn : n ≤ 100 := by omega
    have b62 : -(2 ^ 62) ≤ ((n : Nat) : Int) ∧ ((n : Nat) : Int) < 2 ^ 62 := ⟨by omega, by omega⟩
    have fin : ∀ (D : Addr) (H' : Hp), H D = none → Grown f D H n H' → Q (.ref D) H' := fun D H' n0 g => by
      obtain ⟨c, fe, ns, hl, hb, e⟩ := g
      exact q H' D ns c fe n0 e (by omega) hb
    refine ⟨.int way, rfl, way, 3, rfl, rfl, _, rfl, ite2 (fun _ => ?_) (fun _ => ?_)⟩
    · -- few values
      refine ⟨.ref f, rfl, by decide, fun l nl => ?_⟩
      have nlf := f2.ne nl
      refine ⟨f, l, _, rfl, nlf, SqL.of upd_same, by decide, by decide, f2.upd nlf, fun H3 j v hj c3 f3 => ?_⟩
      have c03 : Ch f H H3 := (Ch.again (cc.free nlf nl) cc).trans c3
      have hv : ∃ few : Int, v = .int few ∧ 0 < few ∧ few < 10 := by
        rcases four hj with e | e | e | e <;> exact ⟨_, e, by decide, by decide⟩
      obtain ⟨few, rfl, p0, p1⟩ := hv
      refine ⟨.int (n : Int), rfl, (n : Int), rfl, b62.1, b62.2, fun D nD => ?_⟩
      have nDf := f3.ne nD
      have n0 := c03.free nDf nD
      refine lc_range (lo := 0) (n := ((n : Int)).toNat) (fun i H' => Grown f D H i H') (Grown.start c03 f3 n0 nDf) (fun i H' hi g => ?_) (fun H' g => fin D H' n0 g)
      refine ⟨rfl, ?_⟩
      refine iteT (B := True) ?_
      refine ⟨.ref f, rfl, .int few, rfl, f, few, rfl, p0, by omega, g.2.1, fun H4 r c4 f4 r0 r1 => g.turn n0 nDf (by omega) c4 f4 (by omega)⟩
    refine ⟨.int way, rfl, rfl, _, rfl, ite2 (fun _ => ?_) (fun _ => ?_)⟩
    · -- great values
      refine ⟨.int (n : Int), rfl, (n : Int), rfl, b62.1, b62.2, fun D nD => ?_⟩
      have nDf := f2.ne nD
      have n0 := cc.free nDf nD
      refine lc_range (lo := 0) (n := ((n : Int)).toNat) (fun i H' => Grown f D H i H') (Grown.start cc f2 n0 nDf) (fun i H' hi g => ?_) (fun H' g => fin D H' n0 g)
      refine ⟨rfl, ?_⟩
      refine iteT (B := True) ?_
      refine ⟨.ref f, rfl, 10, 9, rfl, rfl, ⟨by decide, by decide, by decide⟩, 2, _, rfl, rfl, .inl ⟨by decide, by decide⟩, _, 1, rfl, rfl, f, _, rfl, by decide, by decide, g.2.1, fun H4 r c4 f4 r0 r1 => ?_⟩
      refine ⟨10, 9, rfl, rfl, ⟨by decide, by decide, by decide⟩, r, _, rfl, rfl, g.turn n0 nDf (by omega) c4 f4 ?_⟩
      have e9 : (10 : Int) ^ (9 : Int).toNat = 1000000000 := by decide
      rw [e9] at r1 ⊢
      omega
    refine ⟨.int way, rfl, rfl, _, rfl, ite2 (fun _ => ?_) (fun _ => ?_)⟩
    · -- wider and narrower swings
      refine ⟨.ref f, rfl, .int (n : Int), rfl, (n : Int), 1, rfl, rfl, f, _, rfl, by omega, by omega, f2, fun H3 mid c3 f3 m0 m1 => ?_⟩
      have c03 := cc.trans c3
      refine ⟨.ref f, rfl, 1, rfl, by decide, fun l nl => ?_⟩
      have nlf := f3.ne nl
      refine ⟨f, l, _, rfl, nlf, SqL.of upd_same, by decide, by decide, f3.upd nlf, fun H4 j v hj c4 f4 => ?_⟩
      have c04 : Ch f H H4 := (Ch.again (c03.free nlf nl) c03).trans c4
      have hv : ∃ st : Int, v = .int st ∧ -2 ≤ st ∧ st ≤ 2 := by
        rcases three hj with e | e | e <;> exact ⟨_, e, by decide, by decide⟩
      obtain ⟨st, rfl, p0, p1⟩ := hv
      refine ⟨by decide, fun D nD => ?_⟩
      have nDf := f4.ne nD
      have n0 := c04.free nDf nD
      refine ⟨_, _, _, rfl, .int (n : Int), rfl, (n : Int), rfl, b62.1, b62.2, for_range (lo := 0) (n := ((n : Int)).toNat)
        (fun i σ H' => Grown f D H i H' ∧ ∃ (st : Int) (r5 : Option V), -2 ≤ st ∧ st ≤ 2 ∧ σ = [some (.ref f), some (.int most), some (.int (n : Int)), some (.int way), none, r5, some (.int mid), some (.int st), some (.ref D)]) ?_ ?_ ?_⟩
      · exact ⟨Grown.start c04 f4 n0 nDf, st, none, p0, p1, rfl⟩
      · rintro i σ H' hi ⟨g, st, r5, p0, p1, rfl⟩
        have hi2 : i < 101 := by omega
        obtain ⟨acc, e1, e2, e3⟩ := g.turn n0 nDf (by omega) (Ch.refl f H') g.2.1 (r := st * (if mid < (0 + (i : Int)) then mid else (0 + (i : Int)))) (by
          have hx : 0 ≤ (if mid < (0 + (i : Int)) then mid else (0 + (i : Int))) ∧ (if mid < (0 + (i : Int)) then mid else (0 + (i : Int))) ≤ 200 := by split <;> omega
          generalize (if mid < (0 + (i : Int)) then mid else (0 + (i : Int))) = x at hx
          have hst : st = -2 ∨ st = -1 ∨ st = 0 ∨ st = 1 ∨ st = 2 := by omega
          rcases hst with e | e | e | e | e <;> subst e <;> omega)
        refine ⟨.ref D, rfl, .inl ⟨rfl, _, SqL.of e1⟩, .int st, rfl, .int (0 + (i : Int)), rfl, .int mid, rfl, 0 + (i : Int), mid, rfl, st, _, rfl, rfl, .inl ⟨by omega, by omega⟩, D, acc, _, rfl, rfl, e1, e2, ?_⟩
        exact ⟨.int st, rfl, 0, st, rfl, rfl, e3, 0 - st, _, by omega, by omega, rfl⟩
      · rintro σ H' ⟨g, st, r5, _, _, rfl⟩
        exact ⟨.ref D, rfl, fin D H' n0 g⟩
    refine ⟨.int way, rfl, rfl, _, rfl, ite2 (fun _ => ?_) (fun _ => ?_)⟩
    · -- a climb
      refine ⟨.int (n : Int), rfl, (n : Int), rfl, b62.1, b62.2, fun D nD => ?_⟩
      have nDf := f2.ne nD
      have n0 := cc.free nDf nD
      refine lc_range (lo := 0) (n := ((n : Int)).toNat) (fun i H' => Grown f D H i H') (Grown.start cc f2 n0 nDf) (fun i H' hi g => ?_) (fun H' g => fin D H' n0 g)
      refine ⟨rfl, ?_⟩
      refine iteT (B := True) ?_
      refine ⟨.int (0 + (i : Int)), rfl, 0 + (i : Int), 2, rfl, rfl, ⟨by decide, by decide⟩, .ref f, rfl, f, _, rfl, by decide, by decide, g.2.1, fun H4 r c4 f4 r0 r1 => ?_⟩
      exact ⟨_, r, rfl, rfl, g.turn n0 nDf (by omega) c4 f4 (by omega)⟩
    · refine ⟨.int (n : Int), rfl, (n : Int), rfl, b62.1, b62.2, fun D nD => ?_⟩
      have nDf := f2.ne nD
      have n0 := cc.free nDf nD
      refine lc_range (lo := 0) (n := ((n : Int)).toNat) (fun i H' => Grown f D H i H') (Grown.start cc f2 n0 nDf) (fun i H' hi g => ?_) (fun H' g => fin D H' n0 g)
      refine ⟨rfl, ?_⟩
      refine iteT (B := True) ?_
      refine ⟨.ref f, rfl, 7, rfl, by decide, fun l nl => ?_⟩
      have nlf := g.2.1.ne nl
      refine ⟨f, l, _, rfl, nlf, SqL.of upd_same, by decide, by decide, g.2.1.upd nlf, fun H4 j v hj c4 f4 => ?_⟩
      have hv : ∃ r : Int, v = .int r ∧ r.natAbs < 2 ^ 32 := by
        rcases four hj with e | e | e | e <;> exact ⟨_, e, by decide⟩
      obtain ⟨r, rfl, hr2⟩ := hv
      exact g.turn n0 nDf (by omega) ((Ch.new nl).trans c4) f4 hr2
end
end KL

/-! the program's turning points and swings -/
namespace PA
open PySem PySem.Spec PyProof.Rows L2 KA PH PM
abbrev sCont : Stmt := topS 2
abbrev sRng : Stmt := topS 3
abbrev sTP : Stmt := topS 4
abbrev sBtw : Stmt := topS 6
abbrev sLO : Stmt := topS 5
abbrev sSw : Stmt := topS 7
theorem scCont : FnScope ["outer", "inner"] ["outer", "inner"] (defScope sCont) := ⟨rfl, rfl, rfl, by decide +kernel, rfl, by decide +kernel, by decide +kernel⟩
theorem scRng : FnScope ["one", "other"] ["one", "other"] (defScope sRng) := ⟨rfl, rfl, rfl, by decide +kernel, rfl, by decide +kernel, by decide +kernel⟩
theorem scTP : FnScope ["load", "points", "reading"] ["load"] (defScope sTP) := ⟨rfl, rfl, rfl, by decide +kernel, rfl, by decide +kernel, by decide +kernel⟩
theorem scLO : FnScope ["points", "reading", "last"] ["points", "reading"] (defScope sLO) := ⟨rfl, rfl, rfl, by decide +kernel, rfl, by decide +kernel, by decide +kernel⟩
theorem scBtw : FnScope ["reading", "before", "after"] ["reading", "before", "after"] (defScope sBtw) := ⟨rfl, rfl, rfl, by decide +kernel, rfl, by decide +kernel, by decide +kernel⟩
theorem scSw : FnScope ["load", "points", "one", "other"] ["load"] (defScope sSw) := ⟨rfl, rfl, rfl, by decide +kernel, rfl, by decide +kernel, by decide +kernel⟩
section
variable {P : Program} {w : World} {K : PySem.W.Frag} {mg : Str → Option Value} {base : Heap}
def spCont (K : PySem.W.Frag) : Sp := fun vs H Q _ => ∃ (p q : Addr) (a b c d : Int), vs = [.ref p, .ref q] ∧ SqT K H p [.int a, .int b] ∧ SqT K H q [.int c, .int d] ∧ Q (.bl (decide (a ≤ c) && decide (d ≤ b))) H
theorem ok_Cont {f : Addr} {fd : FuncData} {k : Nat} (F : Fun K "contains" "contains" sCont f fd) : FnOk P w K mg base CX0 (k + 1) f fd ["outer", "inner"] (spCont K) := by
  refine F.ok scCont (fun vs H Q E h => ?_) (fun cdv A outer s H vs Q E hr h => ?_)
  · obtain ⟨p, q, a, b, c, d, rfl, _⟩ := h
    rfl
  · obtain ⟨p, q, a, b, c, d, rfl, h1, h2, hq⟩ := h
    refine ⟨_, pss_one (ps_ret (pe_and (pe_cmpR op_le (pe_ix ix_tup (pv 0) pe_int (fun _ _ => rfl)) (pe_ix ix_tup (pv 1) pe_int (fun _ _ => rfl)) (nomark _)) (pe_one (pe_cmpR op_le (pe_ix ix_tup (pv 1) pe_int (fun _ _ => rfl)) (pe_ix ix_tup (pv 0) pe_int (fun _ _ => rfl)) (nomark _))))), ?_⟩
    refine ⟨.ref p, rfl, p, _, 0, .int a, rfl, rfl, h1, rfl, .ref q, rfl, q, _, 0, .int c, rfl, rfl, h2, rfl, a, c, rfl, rfl, _, rfl, ?_⟩
    by_cases e : a ≤ c
    · rw [decide_eq_true e] at hq ⊢
      exact iteT ⟨.ref q, rfl, q, _, 1, .int d, rfl, rfl, h2, rfl, .ref p, rfl, p, _, 1, .int b, rfl, rfl, h1, rfl, d, b, rfl, rfl, hq⟩
    · rw [decide_eq_false e] at hq ⊢
      exact iteF hq
def spRng : Sp := fun vs H Q _ => ∃ (a b : Int), vs = [.int a, .int b] ∧ ∀ p, H p = none → Q (.ref p) (upd H p (.tup [.int (rg a b).1, .int (rg a b).2]))
theorem ok_Rng {f : Addr} {fd : FuncData} {k : Nat} (F : Fun K "range_of" "range_of" sRng f fd) (mn : mg "min" = none) (mx : mg "max" = none) : FnOk P w K mg base CX0 (k + 1) f fd ["one", "other"] spRng := by
  refine F.ok scRng (fun vs H Q E h => ?_) (fun cdv A outer s H vs Q E hr h => ?_)
  · obtain ⟨a, b, rfl, _⟩ := h
    rfl
  · obtain ⟨a, b, rfl, hq⟩ := h
    refine ⟨_, pss_one (ps_ret (pe_tup (pa_cons (pe_callB (call_min2 rfl) (by rfl) mn (by decide +kernel) (pa_cons (pv 0) (pa_cons (pv 1) pa_nil))) (pa_cons (pe_callB (call_max2 rfl) (by rfl) mx (by decide +kernel) (pa_cons (pv 0) (pa_cons (pv 1) pa_nil))) pa_nil)))), ?_⟩
    exact ⟨.int a, rfl, .int b, rfl, a, b, rfl, .int a, rfl, .int b, rfl, a, b, rfl, by show 2 ≤ sizeLine; decide, fun p np => hq p np⟩
def spBtw : Sp := fun vs H Q _ => ∃ (r b a : Int), vs = [.int r, .int b, .int a] ∧ Q (.bl (decide (Btw r b a))) H
theorem ok_btw {f : Addr} {fd : FuncData} {k : Nat} (F : Fun K "_lies_between" "_lies_between" sBtw f fd) : FnOk P w K mg base CX0 (k + 1) f fd ["reading", "before", "after"] spBtw := by
  refine F.ok scBtw (fun vs H Q E h => ?_) (fun cdv A outer s H vs Q E hr h => ?_)
  · obtain ⟨r, b, a, rfl, _⟩ := h
    rfl
  · obtain ⟨r, b, a, rfl, hq⟩ := h
    refine ⟨_, pss_one (ps_ret (pe_or (pe_chain op_lt op_lt (pv 1) (pv 0) (pv 2)) (pe_one (pe_chain op_lt op_lt (pv 2) (pv 0) (pv 1))))), ?_⟩
    refine ⟨.int b, rfl, .int r, rfl, b, r, rfl, rfl, _, rfl, ?_⟩
    have second : ¬ (b < r ∧ r < a) → tOrV (fun _ H Q => Q (.bl false) H) (tChain (fun x y H Q => ∃ i j, x = .int i ∧ y = .int j ∧ Q (.bl (decide (i < j))) H) (fun x y H Q => ∃ i j, x = .int i ∧ y = .int j ∧ Q (.bl (decide (i < j))) H) (tVar 2) (tVar 0) (tVar 1)) [some (.int r), some (.int b), some (.int a)] H Q := by
      intro hn
      refine ⟨false, rfl, iteF ⟨.int a, rfl, .int r, rfl, a, r, rfl, rfl, _, rfl, ?_⟩⟩
      by_cases e : a < r
      · rw [decide_eq_true e]
        refine iteT ⟨.int b, rfl, r, b, rfl, rfl, ?_⟩
        have e2 : decide (Btw r b a) = decide (r < b) := by rw [decide_eq_decide]; omega
        rw [e2] at hq
        exact hq
      · rw [decide_eq_false e]
        have e2 : decide (Btw r b a) = false := decide_eq_false (by omega)
        rw [e2] at hq
        exact iteF hq
    by_cases e : b < r
    · rw [decide_eq_true e]
      refine iteT ⟨.int a, rfl, r, a, rfl, rfl, _, rfl, ?_⟩
      by_cases e2 : r < a
      · rw [decide_eq_true e2]
        have e3 : decide (Btw r b a) = true := decide_eq_true (.inl ⟨e, e2⟩)
        rw [e3] at hq
        exact iteT hq
      · rw [decide_eq_false e2]
        obtain ⟨_, h1, h2⟩ := second (fun z => e2 z.2)
        cases h1
        exact h2
    · rw [decide_eq_false e]
      obtain ⟨_, h1, h2⟩ := second (fun z => e z.1)
      cases h1
      exact iteF ⟨false, rfl, h2⟩
end
end PA

/-! places, sorted pairs, the stack's turns -/
namespace RN
open PM RM
def takenAt (ps : List Int) (i : Nat) : Bool := match ps.drop i with
  | a :: b :: c :: d :: _ => decide (Taken a b c d)
  | _ => false
theorem taken_here {ps : List Int} {i : Nat} (h : takenAt ps i = true) : ∃ pre a b c d post, ps = pre ++ a :: b :: c :: d :: post ∧ pre.length = i ∧ Taken a b c d := by
  unfold takenAt at h
  split at h
  · rename_i a b c d post e
    refine ⟨ps.take i, a, b, c, d, post, by rw [← e, List.take_append_drop], ?_, of_decide_eq_true h⟩
    have : (ps.drop i).length = post.length + 4 := by rw [e]; simp
    rw [List.length_drop] at this
    rw [List.length_take]
    omega
  · cases h
theorem taken_get {ps : List Int} {i : Nat} {a b c d : Int} (h0 : ps[i]? = some a) (h1 : ps[i + 1]? = some b) (h2 : ps[i + 2]? = some c) (h3 : ps[i + 3]? = some d) : takenAt ps i = decide (Taken a b c d) := by
  have e : ∀ {j : Nat} {r : Int}, ps[j]? = some r → ps.drop j = r :: ps.drop (j + 1) := fun {j r} h => by
    obtain ⟨k1, k2⟩ := List.getElem?_eq_some_iff.mp h
    rw [List.drop_eq_getElem_cons k1, k2]
  unfold takenAt
  rw [e h0, e h1, e h2, e h3]
theorem taken_lt {ps : List Int} {i : Nat} (h : takenAt ps i = true) : i < ps.length - 3 := by
  obtain ⟨pre, a, b, c, d, post, e, hl, _⟩ := taken_here h
  rw [e]
  simp only [List.length_append, List.length_cons]
  omega
theorem step_at {ps q : List Int} {cy : Int × Int} (h : Step ps cy q) : ∃ i, takenAt ps i = true := by
  induction h with
  | here t => exact ⟨0, decide_eq_true t⟩
  | there _ ih =>
    obtain ⟨i, e⟩ := ih
    exact ⟨i + 1, e⟩
def plc (ps : List Int) : List Int := ((List.range (ps.length - 3)).filter (takenAt ps)).map fun (i : Nat) => (i : Int) + 1
theorem plc_mem {ps : List Int} {x : Int} (h : x ∈ plc ps) : ∃ i : Nat, x = (i : Int) + 1 ∧ takenAt ps i = true := by
  obtain ⟨i, hi, e⟩ := List.mem_map.mp h
  exact ⟨i, e.symm, (List.mem_filter.mp hi).2⟩
theorem nf_of_plc {ps : List Int} (h : plc ps = []) : NF ps := by
  intro c q s
  obtain ⟨i, e⟩ := step_at s
  have : (i : Int) + 1 ∈ plc ps := List.mem_map.mpr ⟨i, List.mem_filter.mpr ⟨List.mem_range.mpr (taken_lt e), e⟩, rfl⟩
  rw [h] at this
  cases this
theorem plc_of_nf {ps : List Int} (h : NF ps) : plc ps = [] := by
  cases e : plc ps with
  | nil => rfl
  | cons x l =>
    have hx : x ∈ plc ps := by rw [e]; exact List.mem_cons_self
    obtain ⟨i, _, t⟩ := plc_mem hx
    obtain ⟨pre, a, b, c, d, post, e2, _, tk⟩ := taken_here t
    rw [e2] at h
    exact absurd ((Step.here tk).prefix pre) (h _ _)
theorem Run.suffix {p q : List Int} {cs : List (Int × Int)} (h : Run p cs q) (l : List Int) : Run (p ++ l) cs (q ++ l) := by
  induction h with
  | nil p => exact .nil _
  | cons s _ ih => exact .cons (s.suffix l) ih
theorem Run.ends {p r : List Int} {cs : List (Int × Int)} (h : Run p cs r) : (cs = [] ∧ p = r) ∨ 2 ≤ r.length := by
  induction h with
  | nil p => exact .inl ⟨rfl, rfl⟩
  | @cons p q r c cs s h ih =>
    refine .inr ?_
    rcases ih with ⟨_, e⟩ | e
    · subst e
      have : ∀ {p q : List Int} {c : Int × Int}, Step p c q → 2 ≤ q.length := by
        intro p q c s
        induction s with
        | here _ => simp only [List.length_cons]; omega
        | there _ ih => simp only [List.length_cons]; omega
      exact this s
    · exact e
theorem tq_zig : ∀ (l : List Int) (b a : Int), ZZ (b :: a :: l) → tq b a l = a :: l
  | [], _, _, _ => rfl
  | r :: l, b, a, z => by
    have h1 := z.1
    simp only [tq]
    rw [if_neg (by omega), if_neg (by omega), tq_zig l a r z.2]
theorem zz_tp {ps : List Int} (z : ZZ ps) : tp ps = ps := by
  match ps, z with
  | [], _ => rfl
  | [x], _ => rfl
  | x :: y :: l, z =>
    show ts x (y :: l) = _
    simp only [ts]
    rw [if_neg (zz_cons z), tq_zig l x y z]
/-- pairs in their order -/
abbrev Le (r s : Int × Int) : Prop := r.1 < s.1 ∨ (r.1 = s.1 ∧ r.2 ≤ s.2)
theorem le_anti {r s : Int × Int} (h1 : Le r s) (h2 : Le s r) : r = s := by
  obtain ⟨a, b⟩ := r
  obtain ⟨c, d⟩ := s
  have e1 : a = c := by simp only [Le] at h1 h2; omega
  have e2 : b = d := by simp only [Le] at h1 h2; omega
  rw [e1, e2]
theorem sorted_same : ∀ {l m : List (Int × Int)}, l.Perm m → l.Pairwise Le → m.Pairwise Le → l = m
  | [], m, h, _, _ => (List.Perm.nil_eq h)
  | x :: l, m, h, h1, h2 => by
    cases m with
    | nil => exact absurd h.length_eq (by simp)
    | cons y m =>
      have hx := List.pairwise_cons.mp h1
      have hy := List.pairwise_cons.mp h2
      have e : x = y := by
        have m1 : x ∈ y :: m := h.mem_iff.mp List.mem_cons_self
        have m2 : y ∈ x :: l := h.mem_iff.mpr List.mem_cons_self
        rcases List.mem_cons.mp m1 with e | e
        · exact e
        · rcases List.mem_cons.mp m2 with e' | e'
          · exact e'.symm
          · exact le_anti (hx.1 y e') (hy.1 x e)
      subst e
      rw [sorted_same ((List.perm_cons x).mp h) hx.2 hy.2]
end RN

/-! readings put behind a rest one by one -/
namespace RS
open PM RM RN
/-- the last of some points is none any more with a reading behind it -/
def lo : List Int → Int → Bool
  | [], _ => false
  | [u], r => decide (u = r)
  | [b, u], r => decide (u = r) || decide (Btw u b r)
  | _ :: u :: v :: t, r => lo (u :: v :: t) r
def push : List Int → Int → List Int
  | [], r => [r]
  | [u], r => if u = r then [r] else [u, r]
  | [b, u], r => if u = r ∨ Btw u b r then [b, r] else [b, u, r]
  | b :: u :: v :: t, r => b :: push (u :: v :: t) r
theorem lo_two : ∀ (dn : List Int) (b u r : Int), lo (dn ++ [b, u]) r = (decide (u = r) || decide (Btw u b r))
  | [], _, _, _ => rfl
  | [x], _, _, _ => rfl
  | x :: y :: dn, b, u, r => by
    have h := lo_two (y :: dn) b u r
    cases dn with
    | nil => exact h
    | cons z dn => exact h
theorem push_lo : ∀ (p : List Int) (r : Int), push p r = (if lo p r = true then p.dropLast else p) ++ [r]
  | [], _ => rfl
  | [u], r => by
    simp only [push, lo, decide_eq_true_eq]
    split <;> simp
  | [b, u], r => by
    simp only [push, lo, Bool.or_eq_true, decide_eq_true_eq]
    split <;> simp
  | b :: u :: v :: t, r => by
    have h := push_lo (u :: v :: t) r
    simp only [push, lo]
    rw [h]
    by_cases e : lo (u :: v :: t) r = true
    · simp [e]
    · simp [e]
theorem push_two (dn : List Int) (b u r : Int) : push (dn ++ [b, u]) r = if u = r ∨ Btw u b r then dn ++ [b, r] else dn ++ [b, u, r] := by
  rw [push_lo, lo_two]
  simp only [Bool.or_eq_true, decide_eq_true_eq]
  split
  · rw [show dn ++ [b, u] = (dn ++ [b]) ++ [u] by simp, List.dropLast_concat]; simp
  · simp
theorem push_cons (b : Int) : ∀ {p : List Int} (r : Int), 2 ≤ p.length → push (b :: p) r = b :: push p r
  | [], _, h => by simp at h
  | [_], _, h => by simp at h
  | _ :: _ :: _, _, _ => rfl
theorem tq_ne (b a : Int) : ∀ l, 1 ≤ (tq b a l).length
  | [] => Nat.le_refl _
  | r :: l => by
    simp only [tq]
    split
    · exact tq_ne b a l
    · split
      · exact tq_ne b r l
      · simp
theorem tq_push : ∀ (l : List Int) (b a r : Int), b :: tq b a (l ++ [r]) = push (b :: tq b a l) r
  | [], b, a, r => by
    show b :: tq b a [r] = push [b, a] r
    simp only [tq, push]
    by_cases e : a = r
    · rw [if_pos e, if_pos (Or.inl e), e]
    · rw [if_neg e]
      by_cases bt : Btw a b r
      · rw [if_pos bt, if_pos (Or.inr bt)]
      · rw [if_neg bt, if_neg (fun z => z.elim e bt)]
  | x :: l, b, a, r => by
    simp only [List.cons_append, tq]
    by_cases e : a = x
    · rw [if_pos e, if_pos e]
      exact tq_push l b a r
    · rw [if_neg e, if_neg e]
      by_cases bt : Btw a b x
      · rw [if_pos bt, if_pos bt]
        exact tq_push l b x r
      · rw [if_neg bt, if_neg bt, tq_push l a x r, push_cons b r (by have := tq_ne a x l; simp; omega)]
theorem ts_push : ∀ (l : List Int) (a r : Int), ts a (l ++ [r]) = push (ts a l) r
  | [], a, r => by
    show ts a [r] = push [a] r
    simp only [ts, push]
    by_cases e : a = r
    · rw [if_pos e, if_pos e, e]
    · rw [if_neg e, if_neg e]
      rfl
  | x :: l, a, r => by
    simp only [List.cons_append, ts]
    by_cases e : a = x
    · rw [if_pos e, if_pos e]
      exact ts_push l a r
    · rw [if_neg e, if_neg e]
      exact tq_push l a x r
theorem tp_push (l : List Int) (r : Int) : tp (l ++ [r]) = push (tp l) r := by
  cases l with
  | nil => rfl
  | cons a l => exact ts_push l a r
theorem tp_take {ns : List Int} {i : Nat} {r : Int} (h : ns[i]? = some r) : tp (ns.take (i + 1)) = push (tp (ns.take i)) r := by
  rw [List.take_add_one, h]
  exact tp_push _ _
/-- with points that go up and down, so they go on -/
theorem zz_push {p : List Int} (r : Int) (h : ZZ p) : ZZ (push p r) := by
  have e := tp_push p r
  rw [zz_tp h] at e
  rw [← e]
  exact tp_zz _
theorem taken_abs {a b c d : Int} (h : ZZ (a :: b :: c :: d :: [])) : Taken a b c d ↔ (((b - a).natAbs : Int) ≥ ((c - b).natAbs : Int) ∧ ((d - c).natAbs : Int) ≥ ((c - b).natAbs : Int)) := by
  rw [taken_iff h]
  have h1 := h.1
  have h2 := h.2.1
  omega
theorem zz_at {ps : List Int} : ZZ ps → ∀ {i : Nat} {a b c d : Int}, ps[i]? = some a → ps[i + 1]? = some b → ps[i + 2]? = some c → ps[i + 3]? = some d → ZZ [a, b, c, d] := by
  intro h
  induction ps with
  | nil => intro i a b c d h0; cases h0
  | cons x p ih =>
    intro i a b c d h0 h1 h2 h3
    cases i with
    | succ i => exact ih h.tail h0 h1 h2 h3
    | zero =>
      match p, h, h1, h2, h3 with
      | y :: z :: u :: t, h, h1, h2, h3 =>
        obtain rfl := Option.some.inj h0
        obtain rfl := Option.some.inj h1
        obtain rfl := Option.some.inj h2
        obtain rfl := Option.some.inj h3
        exact h.four
theorem zz_mid {pre : List Int} {a b c d : Int} {post : List Int} (h : ZZ (pre ++ a :: b :: c :: d :: post)) : ZZ [a, b, c, d] := by
  induction pre with
  | nil => exact h.four
  | cons x p ih => exact ih h.tail
theorem zz_mid3 {pre : List Int} {a b c : Int} {post : List Int} (h : ZZ (pre ++ a :: b :: c :: post)) : ((a < b ∧ c < b) ∨ (b < a ∧ b < c)) := by
  induction pre with
  | nil => exact h.1
  | cons x p ih => exact ih h.tail
theorem step_on {p q : List Int} {cy : Int × Int} (s : Step p cy q) : ∀ {m : List Int} {b u : Int}, p = m ++ [b, u] → ZZ p →
    ∃ m' b', q = m' ++ [b', u] ∧ (b < u ↔ b' < u) ∧ (u < b ↔ u < b') ∧ ∀ r, (b < u → u ≤ r) → (u < b → r ≤ u) → Step (m ++ [b, r]) cy (m' ++ [b', r]) := by
  induction s with
  | @here a b1 c d post t =>
    intro m b u e z
    have ti := (taken_iff z.four).mp t
    rcases List.eq_nil_or_concat post with rfl | ⟨post1, y, rfl⟩
    · have e2 : [a, b1] ++ [c, d] = m ++ [b, u] := e
      obtain ⟨rfl, e4⟩ := List.append_inj' e2 rfl
      injection e4 with e5 e6
      injection e6 with e6 _
      subst e5 e6
      refine ⟨[], a, rfl, by omega, by omega, fun r h1 h2 => ?_⟩
      have zr : ZZ [a, b1, c, r] := ⟨z.1, by have := z.2.1; constructor; have := z.1; omega; show c ≠ r; omega⟩
      exact .here ((taken_iff zr).mpr (by omega))
    · rcases List.eq_nil_or_concat post1 with rfl | ⟨post2, x, rfl⟩
      · have e2 : [a, b1, c] ++ [d, y] = m ++ [b, u] := e
        obtain ⟨rfl, e4⟩ := List.append_inj' e2 rfl
        injection e4 with e5 e6
        injection e6 with e6 _
        subst e5 e6
        exact ⟨[a], d, rfl, Iff.rfl, Iff.rfl, fun r _ _ => .here t⟩
      · have e2 : (a :: b1 :: c :: d :: post2) ++ [x, y] = m ++ [b, u] := by rw [← e]; simp
        obtain ⟨rfl, e4⟩ := List.append_inj' e2 rfl
        injection e4 with e5 e6
        injection e6 with e6 _
        subst e5 e6
        exact ⟨a :: d :: post2, x, by simp, Iff.rfl, Iff.rfl, fun r _ _ => .here t⟩
  | @there x p q cy s ih =>
    intro m b u e z
    cases m with
    | nil =>
      have hl := s.len
      injection e with _ e
      rw [e] at hl
      simp at hl
    | cons y m =>
      injection e with e1 e2
      subst e1
      obtain ⟨m', b', h1, h2, h3, h4⟩ := ih e2 z.tail
      exact ⟨x :: m', b', by rw [h1]; rfl, h2, h3, fun r k1 k2 => .there (h4 r k1 k2)⟩
theorem run_on {p q : List Int} {cs : List (Int × Int)} (h : Run p cs q) : ∀ {m : List Int} {b u : Int}, p = m ++ [b, u] → ZZ p →
    ∃ m' b', q = m' ++ [b', u] ∧ (b < u ↔ b' < u) ∧ (u < b ↔ u < b') ∧ ∀ r, (b < u → u ≤ r) → (u < b → r ≤ u) → Run (m ++ [b, r]) cs (m' ++ [b', r]) := by
  induction h with
  | nil p => exact fun {m b u} e z => ⟨m, b, e, Iff.rfl, Iff.rfl, fun r _ _ => .nil _⟩
  | @cons p q r0 c cs s run ih =>
    intro m b u e z
    obtain ⟨m1, b1, h1, h2, h3, h4⟩ := step_on s e z
    obtain ⟨m2, b2, k1, k2, k3, k4⟩ := ih h1 (ZZ.step s z)
    exact ⟨m2, b2, k1, h2.trans k2, h3.trans k3, fun r j1 j2 => .cons (h4 r j1 j2) (k4 r (fun z => j1 (h2.mpr z)) (fun z => j2 (h3.mpr z)))⟩
theorem step_two {p q : List Int} {c : Int × Int} (s : Step p c q) : 2 ≤ q.length := by
  induction s with
  | here _ => simp only [List.length_cons]; omega
  | there _ ih => simp only [List.length_cons]; omega
theorem two_last {p : List Int} (h : 2 ≤ p.length) : ∃ m b u, p = m ++ [b, u] := by
  rcases List.eq_nil_or_concat p with rfl | ⟨m1, d, rfl⟩
  · simp at h
  · rcases List.eq_nil_or_concat m1 with rfl | ⟨m2, c, rfl⟩
    · simp at h
    · exact ⟨m2, c, d, by simp⟩
/-- a reading behind a load is a reading behind its rest -/
theorem run_push {p q : List Int} {cs : List (Int × Int)} (h : Run p cs q) (z : ZZ p) (r : Int) : Run (push p r) cs (push q r) := by
  by_cases h2 : 2 ≤ p.length
  · obtain ⟨m, b, u, rfl⟩ := two_last h2
    obtain ⟨m', b', rfl, e1, e2, e3⟩ := run_on h rfl z
    rw [push_two, push_two]
    by_cases hb : u = r ∨ Btw u b r
    · have hb' : u = r ∨ Btw u b' r := hb.imp id (fun k => by omega)
      rw [if_pos hb, if_pos hb']
      exact e3 r (fun k => by omega) (fun k => by omega)
    · have hb' : ¬ (u = r ∨ Btw u b' r) := fun k => hb (k.imp id (fun k => by omega))
      rw [if_neg hb, if_neg hb']
      have := RN.Run.suffix h [r]
      simpa using this
  · cases h with
    | nil _ => exact .nil _
    | cons s _ =>
      have := s.len
      have := step_two s
      exact absurd (show 2 ≤ p.length by omega) h2
theorem Run.append {p q r : List Int} {cs ds : List (Int × Int)} (h : Run p cs q) (k : Run q ds r) : Run p (cs ++ ds) r := by
  induction h with
  | nil p => exact k
  | cons s _ ih => exact .cons s (ih k)
/-- one reading more -/
theorem stream {ns : List Int} {i : Nat} {r : Int} {cs cs2 : List (Int × Int)} {rs rs2 : List Int} (hr : ns[i]? = some r) (h : Run (tp (ns.take i)) cs rs) (k : Run (push rs r) cs2 rs2) : Run (tp (ns.take (i + 1))) (cs ++ cs2) rs2 := by
  rw [tp_take hr]
  exact Run.append (run_push h (tp_zz _) r) k
theorem push_len (p : List Int) (r : Int) : (push p r).length ≤ p.length + 1 := by
  rw [push_lo]
  split <;> simp
end RS

/-! turning_points, swings -/
namespace PB
open PySem PySem.Spec PyProof.Rows L2 KA PH PM PA RM RS
theorem atI_last2 (xs : List V) (u v : V) : atI (xs ++ [u] ++ [v]) (-2) = some u := by
  have hl : (xs ++ [u] ++ [v]).length = xs.length + 2 := by simp
  have h : ixN (xs ++ [u] ++ [v]).length (-2) = some xs.length := by
    unfold ixN
    rw [hl, if_neg (by decide), if_pos (by omega)]
    congr 1
    omega
  unfold atI
  rw [h]
  show (xs ++ [u] ++ [v])[xs.length]? = some u
  simp
theorem drop_at {ns : List Int} {i : Nat} {r : Int} (h : ns[i]? = some r) : ns.drop i = r :: ns.drop (i + 1) := by
  obtain ⟨h1, h2⟩ := List.getElem?_eq_some_iff.mp h
  rw [List.drop_eq_getElem_cons h1, h2]
section
variable {P : Program} {w : World} {K : PySem.W.Frag} {mg : Str → Option Value} {base : Heap}
def spTPl (K : PySem.W.Frag) : Sp := fun vs H Q _ => ∃ (a : Addr) (ns : List Int), vs = [.ref a] ∧ SqL K H a (ns.map V.int) ∧ ns.length ≤ 2500 ∧ ∀ H' p, Same H H' → H p = none → H' p = some (.tup ((tp ns).map V.int)) → Q (.ref p) H'
def spTPt (K : PySem.W.Frag) : Sp := fun vs H Q _ => ∃ (a : Addr) (ns : List Int), vs = [.ref a] ∧ SqT K H a (ns.map V.int) ∧ ns.length ≤ 2500 ∧ ∀ H' p, Same H H' → H p = none → H' p = some (.tup ((tp ns).map V.int)) → Q (.ref p) H'
abbrev spTP (K : PySem.W.Frag) : Sp := fun vs H Q E => spTPl K vs H Q E ∨ spTPt K vs H Q E
def spLO (K : PySem.W.Frag) : Sp := fun vs H Q _ => ∃ (a : Addr) (ps : List Int) (r : Int), vs = [.ref a, .int r] ∧ SqL K H a (ps.map V.int) ∧ Q (.bl (lo ps r)) H
theorem ends3 (ps : List Int) : ps = [] ∨ (∃ u, ps = [u]) ∨ ∃ dn b u, ps = dn ++ [b, u] := by
  rcases List.eq_nil_or_concat ps with h | ⟨m1, d, h⟩
  · exact .inl h
  · rcases List.eq_nil_or_concat m1 with h1 | ⟨m2, c, h1⟩
    · subst h1
      exact .inr (.inl ⟨d, by rw [h]; rfl⟩)
    · subst h1
      exact .inr (.inr ⟨m2, c, d, by rw [h]; simp⟩)
theorem ok_LO {f fB : Addr} {fd fdB : FuncData} {k : Nat} (F : Fun K "is_left_out" "is_left_out" sLO f fd) (FB : Fun K "_lies_between" "_lies_between" sBtw fB fdB) (gB : mg "_lies_between" = some (.ref fB)) (bB : Binds K fdB ["reading", "before", "after"] [])
    (ml : mg "len" = none) : FnOk P w K mg base CX0 (k + 2) f fd ["points", "reading"] (spLO K) := by
  have GB : FnOk P w K mg base CX0 (k + 1) fB fdB ["reading", "before", "after"] spBtw := ok_btw FB
  refine F.ok scLO (fun vs H Q E h => ?_) (fun cdv A outer s H vs Q E hr h => ?_)
  · obtain ⟨a, ps, r, rfl, _⟩ := h
    rfl
  · obtain ⟨a, ps, r, rfl, hS, hq⟩ := h
    refine ⟨_, pss_cons (ps_if (pt_not (pt_truth (pv 0) (by intro _; rfl))) (pss_one (ps_ret pe_bl)) pss_nil)
      (pss_cons (ps_set (i := 2) scLO.nd rfl (.inl rfl) (pe_ix ix_list (pv 0) (pe_un un_neg pe_int) (fun _ _ => rfl)))
      (pss_one (ps_ret (pe_or (pe_cmpR op_eq (pv 2) (pv 1) (nomark _)) (pe_one (pe_and (pe_cmpR op_gt (pe_callB call_len_seq (by rfl) ml PySem.boot_len (pa_cons (pv 0) pa_nil)) pe_int (nomark _))
        (pe_one (pe_call GB hr (by rfl) gB FB.kp bB .nil pass0 (pa_cons (pv 2) (pa_cons (pe_ix ix_list (pv 0) (pe_un un_neg pe_int) (fun _ _ => rfl)) (pa_cons (pv 1) pa_nil))))))))))), ?_⟩
    rcases ends3 ps with rfl | ⟨u, rfl⟩ | ⟨dn, b, u, rfl⟩
    · refine ⟨.ref a, rfl, false, .inl ⟨[], hS, rfl⟩, ?_⟩
      refine iteT ?_
      exact hq
    · refine ⟨.ref a, rfl, true, .inl ⟨[.int u], hS, rfl⟩, ?_⟩
      refine iteF ?_
      refine ⟨.ref a, rfl, 1, rfl, a, _, -1, .int u, rfl, rfl, hS, rfl, .int u, rfl, .int r, rfl, rfl, _, rfl, ?_⟩
      by_cases e : u = r
      · rw [show lo [u] r = true from decide_eq_true e] at hq
        rw [decide_eq_true (show V.int u = V.int r by rw [e])]
        exact iteT hq
      · rw [show lo [u] r = false from decide_eq_false e] at hq
        rw [decide_eq_false (show ¬ V.int u = V.int r from fun z => e (V.int.inj z))]
        exact iteF ⟨.ref a, rfl, a, _, rfl, .inl hS, _, _, rfl, rfl, _, rfl, iteF hq⟩
    · have em : ((dn ++ [b, u]).map V.int) = (dn.map V.int ++ [V.int b]) ++ [V.int u] := by simp
      rw [em] at hS
      have e0 : (!((dn.map V.int ++ [V.int b]) ++ [V.int u]).isEmpty) = true := by cases dn <;> rfl
      have hL : ((dn.map V.int ++ [V.int b]) ++ [V.int u]).length = dn.length + 2 := by simp
      rw [lo_two] at hq
      refine ⟨.ref a, rfl, true, .inl ⟨_, hS, e0.symm⟩, ?_⟩
      refine iteF ?_
      refine ⟨.ref a, rfl, 1, rfl, a, _, -1, .int u, rfl, rfl, hS, atI_last _ _, .int u, rfl, .int r, rfl, rfl, _, rfl, ?_⟩
      by_cases e : u = r
      · rw [decide_eq_true e, Bool.true_or] at hq
        rw [decide_eq_true (show V.int u = V.int r by rw [e])]
        exact iteT hq
      · rw [decide_eq_false e, Bool.false_or] at hq
        rw [decide_eq_false (show ¬ V.int u = V.int r from fun z => e (V.int.inj z))]
        have h2 : decide ((((dn.map V.int ++ [V.int b]) ++ [V.int u]).length : Int) > 1) = true := decide_eq_true (by rw [hL]; omega)
        refine iteF ⟨.ref a, rfl, a, _, rfl, .inl hS, _, _, rfl, rfl, _, rfl, ?_⟩
        rw [h2]
        exact iteT ⟨.int u, rfl, .ref a, rfl, 2, rfl, a, _, -2, .int b, rfl, rfl, hS, atI_last2 _ _ _, .int r, rfl, u, b, r, rfl, hq⟩
theorem ok_TPl {f fL : Addr} {fd fdL : FuncData} {k : Nat} (F : Fun K "turning_points" "turning_points" sTP f fd) (GL : FnOk P w K mg base CX0 (k + 2) fL fdL ["points", "reading"] (spLO K)) (gL : mg "is_left_out" = some (.ref fL)) (kL : PySem.W.keepIn K (.ref fL) = true) (bL : Binds K fdL ["points", "reading"] [])
    (mt : mg "tuple" = none) : FnOk P w K mg base CX0 (k + 3) f fd ["load"] (spTPl K) := by
  refine F.ok scTP (fun vs H Q E h => ?_) (fun cdv A outer s H vs Q E hr h => ?_)
  · obtain ⟨a, ns, rfl, _⟩ := h
    rfl
  · obtain ⟨a, ns, rfl, hS, hlen, hq⟩ := h
    refine ⟨_, pss_cons (ps_set (i := 1) scTP.nd rfl (.inl rfl) (pe_lst pa_nil))
      (pss_cons (ps_for PassesOwn.never rfl (pi_list (pv 0)) (pg_name (i := 2) scTP.nd rfl (.inl rfl))
        (pss_cons (ps_if (pt_val (pe_call GL hr (by rfl) gL kL bL .nil pass0 (pa_cons (pv 1) (pa_cons (pv 2) pa_nil))))
              (pss_one (ps_expr (pe_bm0 PySem.F.plainAttrs_list PySem.F.slot_list_pop PySem.F.type_list_pop mt_pop (pv 1)))) pss_nil)
            (pss_one (ps_expr (pe_bm PySem.F.plainAttrs_list PySem.F.slot_list_append PySem.F.type_list_append mt_append (pv 1) (pa_cons (pv 2) pa_nil))))))
      (pss_one (ps_ret (pe_callTy call_tuple_of (by rfl) mt (by decide +kernel) (pa_cons (pv 1) pa_nil))))), ?_⟩
    refine ⟨Nat.zero_le _, fun D nD => ?_⟩
    have sm : ∀ o, Same H (upd H D o) := fun o => same_new nD
    refine ⟨.ref a, rfl, a, rfl, ⟨_, (sm _).seq hS⟩, for_list (K := K) (a := a) (xs := ns.map V.int)
      (fun i σ H' => ∃ (r2 : Option V), σ = [some (.ref a), some (.ref D), r2] ∧ H' = upd H D (.lst ((tp (ns.take i)).map V.int)) ∧ (tp (ns.take i)).length ≤ i) ?_ ?_ ?_ ?_⟩
    · exact ⟨none, rfl, rfl, Nat.le_refl _⟩
    · rintro i σ H' _ ⟨r2, rfl, rfl, _⟩
      exact (sm _).seq hS
    · rintro i x σ H' hx ⟨r2, rfl, rfl, hpl⟩
      obtain ⟨r, hr2, rfl⟩ := int_at hx
      have hin : i < ns.length := (List.getElem?_eq_some_iff.mp hr2).1
      rw [tp_take hr2]
      generalize tp (ns.take i) = ps at hpl ⊢
      have hpl2 := Nat.le_trans (push_len ps r) (Nat.succ_le_succ hpl)
      refine ⟨.ref D, rfl, .int r, rfl, D, ps, r, rfl, SqL.of upd_same, _, rfl, ?_⟩
      have hp := push_lo ps r
      cases hl : lo ps r with
      | true =>
        rw [hl, if_pos rfl] at hp
        have hne : ps ≠ [] := fun z => by rw [z] at hl; cases hl
        obtain ⟨ps', u, rfl⟩ : ∃ ps' u, ps = ps' ++ [u] := by
          rcases List.eq_nil_or_concat ps with h | ⟨m1, d, h⟩
          · exact absurd h hne
          · exact ⟨m1, d, by rw [h]; simp⟩
        rw [List.dropLast_concat] at hp
        have em : (ps' ++ [u]).map V.int = ps'.map V.int ++ [V.int u] := by simp
        have hl' : (ps' ++ [u]).length = ps'.length + 1 := by simp
        refine iteT ⟨.ref D, rfl, .inl ⟨rfl, _, SqL.of upd_same⟩, D, ps'.map V.int ++ [V.int u], .int u, rfl, rfl, by rw [upd_same, em], by simp, ?_⟩
        refine ⟨.ref D, rfl, .inl ⟨rfl, _, SqL.of upd_same⟩, .int r, rfl, D, ps'.map V.int, _, rfl, rfl, by rw [upd_same, List.dropLast_concat], by rw [List.length_map]; exact small3000 (by omega), _, rfl, ?_, hpl2⟩
        rw [upd_upd, upd_upd, hp, List.map_append]
        rfl
      | false =>
        rw [hl, if_neg (by decide)] at hp
        refine iteF ?_
        refine ⟨.ref D, rfl, .inl ⟨rfl, _, SqL.of upd_same⟩, .int r, rfl, D, _, _, rfl, rfl, upd_same, by rw [List.length_map]; exact small3000 (by omega), _, rfl, ?_, hpl2⟩
        rw [upd_upd, hp, List.map_append]
        rfl
    · rintro σ H' ⟨r2, rfl, rfl, hpl⟩
      have et : ns.take (ns.map V.int).length = ns := by rw [List.length_map]; exact List.take_length
      rw [et]
      exact ⟨.ref D, rfl, D, _, rfl, .inl ⟨SqL.of upd_same, fun l nl => hq _ l ((sm _).trans (same_new nl)) ((sm _).free nl) upd_same⟩⟩
theorem ok_TPt {f fL : Addr} {fd fdL : FuncData} {k : Nat} (F : Fun K "turning_points" "turning_points" sTP f fd) (GL : FnOk P w K mg base CX0 (k + 2) fL fdL ["points", "reading"] (spLO K)) (gL : mg "is_left_out" = some (.ref fL)) (kL : PySem.W.keepIn K (.ref fL) = true) (bL : Binds K fdL ["points", "reading"] [])
    (mt : mg "tuple" = none) : FnOk P w K mg base CX0 (k + 3) f fd ["load"] (spTPt K) := by
  refine F.ok scTP (fun vs H Q E h => ?_) (fun cdv A outer s H vs Q E hr h => ?_)
  · obtain ⟨a, ns, rfl, _⟩ := h
    rfl
  · obtain ⟨a, ns, rfl, hS, hlen, hq⟩ := h
    refine ⟨_, pss_cons (ps_set (i := 1) scTP.nd rfl (.inl rfl) (pe_lst pa_nil))
      (pss_cons (ps_for PassesOwn.never rfl (pi_tup (pv 0)) (pg_name (i := 2) scTP.nd rfl (.inl rfl))
        (pss_cons (ps_if (pt_val (pe_call GL hr (by rfl) gL kL bL .nil pass0 (pa_cons (pv 1) (pa_cons (pv 2) pa_nil))))
              (pss_one (ps_expr (pe_bm0 PySem.F.plainAttrs_list PySem.F.slot_list_pop PySem.F.type_list_pop mt_pop (pv 1)))) pss_nil)
            (pss_one (ps_expr (pe_bm PySem.F.plainAttrs_list PySem.F.slot_list_append PySem.F.type_list_append mt_append (pv 1) (pa_cons (pv 2) pa_nil))))))
      (pss_one (ps_ret (pe_callTy call_tuple_of (by rfl) mt (by decide +kernel) (pa_cons (pv 1) pa_nil))))), ?_⟩
    refine ⟨Nat.zero_le _, fun D nD => ?_⟩
    have sm : ∀ o, Same H (upd H D o) := fun o => same_new nD
    refine ⟨.ref a, rfl, a, rfl, ⟨_, SqT_same (sm _) hS⟩, for_tup (K := K) (a := a) (xs := ns.map V.int)
      (fun i σ H' => ∃ (r2 : Option V), σ = [some (.ref a), some (.ref D), r2] ∧ H' = upd H D (.lst ((tp (ns.take i)).map V.int)) ∧ (tp (ns.take i)).length ≤ i) ?_ ?_ ?_ ?_⟩
    · exact ⟨none, rfl, rfl, Nat.le_refl _⟩
    · rintro i σ H' _ ⟨r2, rfl, rfl, _⟩
      exact SqT_same (sm _) hS
    · rintro i x σ H' hx ⟨r2, rfl, rfl, hpl⟩
      obtain ⟨r, hr2, rfl⟩ := int_at hx
      have hin : i < ns.length := (List.getElem?_eq_some_iff.mp hr2).1
      rw [tp_take hr2]
      generalize tp (ns.take i) = ps at hpl ⊢
      have hpl2 := Nat.le_trans (push_len ps r) (Nat.succ_le_succ hpl)
      refine ⟨.ref D, rfl, .int r, rfl, D, ps, r, rfl, SqL.of upd_same, _, rfl, ?_⟩
      have hp := push_lo ps r
      cases hl : lo ps r with
      | true =>
        rw [hl, if_pos rfl] at hp
        have hne : ps ≠ [] := fun z => by rw [z] at hl; cases hl
        obtain ⟨ps', u, rfl⟩ : ∃ ps' u, ps = ps' ++ [u] := by
          rcases List.eq_nil_or_concat ps with h | ⟨m1, d, h⟩
          · exact absurd h hne
          · exact ⟨m1, d, by rw [h]; simp⟩
        rw [List.dropLast_concat] at hp
        have em : (ps' ++ [u]).map V.int = ps'.map V.int ++ [V.int u] := by simp
        have hl' : (ps' ++ [u]).length = ps'.length + 1 := by simp
        refine iteT ⟨.ref D, rfl, .inl ⟨rfl, _, SqL.of upd_same⟩, D, ps'.map V.int ++ [V.int u], .int u, rfl, rfl, by rw [upd_same, em], by simp, ?_⟩
        refine ⟨.ref D, rfl, .inl ⟨rfl, _, SqL.of upd_same⟩, .int r, rfl, D, ps'.map V.int, _, rfl, rfl, by rw [upd_same, List.dropLast_concat], by rw [List.length_map]; exact small3000 (by omega), _, rfl, ?_, hpl2⟩
        rw [upd_upd, upd_upd, hp, List.map_append]
        rfl
      | false =>
        rw [hl, if_neg (by decide)] at hp
        refine iteF ?_
        refine ⟨.ref D, rfl, .inl ⟨rfl, _, SqL.of upd_same⟩, .int r, rfl, D, _, _, rfl, rfl, upd_same, by rw [List.length_map]; exact small3000 (by omega), _, rfl, ?_, hpl2⟩
        rw [upd_upd, hp, List.map_append]
        rfl
    · rintro σ H' ⟨r2, rfl, rfl, hpl⟩
      have et : ns.take (ns.map V.int).length = ns := by rw [List.length_map]; exact List.take_length
      rw [et]
      exact ⟨.ref D, rfl, D, _, rfl, .inl ⟨SqL.of upd_same, fun l nl => hq _ l ((sm _).trans (same_new nl)) ((sm _).free nl) upd_same⟩⟩
end
end PB

/-! swings; the law's own points -/
namespace PC
open PySem PySem.Spec PyProof.Rows L2 KA PH PM PA PB RM RS
theorem cut_to (xs : List V) (k : Nat) : cutV xs none (some ((k : Nat) : Int)) = xs.take k := by
  unfold cutV
  rw [HT.sIx_none, HT.sIx_nat]
  simp only [Nat.sub_zero, List.drop_zero]
  rcases Nat.le_total k xs.length with h | h
  · rw [Nat.min_eq_left h]
  · rw [Nat.min_eq_right h, List.take_length, List.take_of_length_le h]
theorem cut_from (xs : List V) (k : Nat) : cutV xs (some ((k : Nat) : Int)) none = xs.drop k := by
  unfold cutV
  rw [HT.sIx_nat, HT.sIx_none]
  rcases Nat.le_total k xs.length with h | h
  · rw [Nat.min_eq_left h, List.take_of_length_le (by rw [List.length_drop]; omega)]
  · rw [Nat.min_eq_right h, Nat.sub_self, List.drop_eq_nil_of_le h]
    rfl
/-- a list of i pairs stands at R, what was tracked stands -/
def Prs (H0 : Hp) (R : Addr) (ps : List Int) (i : Nat) (H : Hp) : Prop := Same H0 H ∧ ∃ xs, H R = some (.lst xs) ∧ PairsAt H xs ((sw ps).take i)
theorem Prs.start {H0 : Hp} {R : Addr} (ps : List Int) (n : H0 R = none) : Prs H0 R ps 0 (upd H0 R (.lst [])) := ⟨same_new n, [], upd_same, trivial⟩
theorem Prs.turn {H0 H1 H2 : Hp} {R q : Addr} {ps : List Int} {i : Nat} {x y : Int} (g : Prs H0 R ps i H1) (n : H0 R = none) (s : Same H1 H2) (nq : H2 q = none) (hx : ps[i]? = some x) (hy : ps[i + 1]? = some y) (hl : ps.length ≤ 2500) :
    ∃ acc, (upd H2 q (.tup [.int (rg x y).1, .int (rg x y).2])) R = some (.lst acc) ∧ acc.length < sizeLine ∧ Prs H0 R ps (i + 1) (upd (upd H2 q (.tup [.int (rg x y).1, .int (rg x y).2])) R (.lst (acc ++ [.ref q]))) := by
  obtain ⟨s0, xs, e, pa⟩ := g
  have e2 := s _ _ e
  have nRq : R ≠ q := ne_of_none e2 nq
  have sq : Same H2 (upd H2 q (.tup [.int (rg x y).1, .int (rg x y).2])) := same_new nq
  have hi : i < ps.length := (List.getElem?_eq_some_iff.mp hx).1
  have hxl : xs.length ≤ i := by rw [pa.length, List.length_take]; omega
  refine ⟨xs, sq _ _ e2, small3000 (by omega), same_again n ((s0.trans s).trans sq), xs ++ [.ref q], upd_same, ?_⟩
  rw [sw_take ps i x y hx hy]
  have other : ∀ {ys : List V} {rs : List (Int × Int)}, PairsAt H1 ys rs → PairsAt (upd (upd H2 q (.tup [.int (rg x y).1, .int (rg x y).2])) R (.lst (xs ++ [.ref q]))) ys rs := by
    intro ys
    induction ys with
    | nil => intro rs h; cases rs with
      | nil => trivial
      | cons _ _ => exact h.elim
    | cons z zs ih =>
      intro rs h
      cases rs with
      | nil => exact h.elim
      | cons r rs =>
        obtain ⟨⟨p, h1, h2⟩, h3⟩ := h
        have h4 := sq _ _ (s _ _ h2)
        have npR : p ≠ R := fun z => by rw [z, e] at h2; cases h2
        exact ⟨⟨p, h1, by rw [upd_ne npR]; exact h4⟩, ih h3⟩
  refine PairsAt.append (other pa) ⟨⟨q, rfl, ?_⟩, trivial⟩
  rw [upd_ne nRq.symm, upd_same]
theorem Prs.all {H0 H : Hp} {R : Addr} {ps : List Int} {i : Nat} (g : Prs H0 R ps i H) (h : ps.length - 1 ≤ i) : ∃ xs, H R = some (.lst xs) ∧ PairsAt H xs (sw ps) := by
  obtain ⟨_, xs, e, pa⟩ := g
  rw [List.take_of_length_le (by rw [sw_len]; exact h)] at pa
  exact ⟨xs, e, pa⟩
section
variable {P : Program} {w : World} {K : PySem.W.Frag} {mg : Str → Option Value} {base : Heap}
def spSw (K : PySem.W.Frag) : Sp := fun vs H Q _ => ∃ (a : Addr) (ns : List Int), vs = [.ref a] ∧ Sq K H a (ns.map V.int) ∧ ns.length ≤ 2500 ∧ ∀ H' p xs, Same H H' → H p = none → H' p = some (.lst xs) → PairsAt H' xs (sw (tp ns)) → Q (.ref p) H'
theorem ok_sw {f fP fR : Addr} {fd fdP fdR : FuncData} {k : Nat} (F : Fun K "swings" "swings" sSw f fd) (GP : FnOk P w K mg base CX0 (k + 2) fP fdP ["load"] (spTP K)) (gP : mg "turning_points" = some (.ref fP)) (kP : PySem.W.keepIn K (.ref fP) = true) (bP : Binds K fdP ["load"] [])
    (GR : FnOk P w K mg base CX0 (k + 1) fR fdR ["one", "other"] spRng) (gR : mg "range_of" = some (.ref fR)) (kR : PySem.W.keepIn K (.ref fR) = true) (bR : Binds K fdR ["one", "other"] []) (mz : mg "zip" = none) : FnOk P w K mg base CX0 (k + 3) f fd ["load"] (spSw K) := by
  refine F.ok scSw (fun vs H Q E h => ?_) (fun cdv A outer s H vs Q E hr h => ?_)
  · obtain ⟨a, ns, rfl, _⟩ := h
    rfl
  · obtain ⟨a, ns, rfl, hS, hlen, hq⟩ := h
    have h1 := hr.mono (Nat.le_succ (k + 1))
    refine ⟨_, pss_cons (ps_set (i := 1) scSw.nd rfl (.inl rfl) (pe_call GP hr (by rfl) gP kP bP .nil pass0 (pa_cons (pv 0) pa_nil)))
      (pss_one (ps_ret (pe_lc (own := [("one", 2), ("other", 3)]) (g := gTup K 2 (gCons (gName 2) (gCons (gName 3) gNil))) rfl scSw.nd
        (RZ.pi_zipA (by rfl) mz (pa_cons (pv 1) (pa_cons (pe_slice sl_tupA (pv 1) (po_some pe_int) po_none) pa_nil)))
        (blkOk_by (own := [("one", 2), ("other", 3)]) (N := ["load", "points", "one", "other"]) (sc := defScope sSw) (by decide +kernel))
        (fun _ _ _ _ _ => pg_tup rfl (pgs_cons (pg_name (i := 2) scSw.nd rfl (Or.inl rfl) (Or.inr rfl)) (pgs_cons (pg_name (i := 3) scSw.nd rfl (Or.inl rfl) (Or.inr rfl)) pgs_nil)))
        (fun _ _ _ _ _ => pts_nil) (fun _ _ _ _ _ => pe_call GR h1 (by rfl) gR kR bR .nil pass0 (pa_cons (pv 2) (pa_cons (pv 3) pa_nil)))))), ?_⟩
    refine ⟨.ref a, rfl, ?_⟩
    have hps : (tp ns).length ≤ 2500 := Nat.le_trans (tp_len ns) hlen
    rcases hS with hS | hS
    · refine .inl ⟨a, ns, rfl, hS, hlen, fun H1 t s1 nt et => ?_⟩
      refine ⟨.ref t, rfl, .ref t, rfl, 1, rfl, t, (tp ns).map V.int, rfl, SqT.of et, fun hw => ?_, fun hn c nc => ?_⟩
      · have e0 : (tp ns).map V.int = [] := by
          have z := hw.1
          rw [show (some (1 : Int)) = some ((1 : Nat) : Int) from rfl, HT.sIx_nat] at z
          exact List.length_eq_zero_iff.mp (by omega)
        have hc : SqT K H1 t (((tp ns).map V.int).drop 1) := by
          rw [e0]
          rw [e0] at et
          exact SqT.of et
        have s2 := Same.refl H1
        refine ⟨t, t, (tp ns).map V.int, ((tp ns).map V.int).drop 1, rfl, .inr ⟨SqT.of (s2 _ _ et), hc, fun R nR => lc_it (walk_tups (K := K) (a := t) (b := t) (xs := (tp ns).map V.int) (ys := ((tp ns).map V.int).drop 1) (n := (tp ns).length - 1) (by rw [List.length_drop, List.length_map]; omega))
          (fun i H' => Prs H1 R (tp ns) i H') (Prs.start _ nR) (fun i H' _ g => ⟨SqT.of (g.1 _ _ (s2 _ _ et)), SqT_same g.1 hc⟩) ?_ ?_⟩⟩
        · rintro i x H3 H4 hi g ⟨T, u, v, rfl, nT, rfl, g1, g2⟩
          have g1 : ((tp ns).map V.int)[i]? = some u := g1
          have g2 : (((tp ns).map V.int).drop 1)[i]? = some v := g2
          rw [List.getElem?_drop, Nat.add_comm 1 i] at g2
          obtain ⟨x, hx, rfl⟩ := int_at g1
          obtain ⟨y, hy, rfl⟩ := int_at g2
          refine ⟨T, [.int x, .int y], rfl, SqT.of upd_same, rfl, .int x, [.int y], rfl, .int y, [], rfl, rfl, rfl, ?_⟩
          refine iteT (B := True) ?_
          exact ⟨.int x, rfl, .int y, rfl, x, y, rfl, fun q nq => g.turn nR (same_new nT) nq hx hy hps⟩
        · intro H' g
          obtain ⟨xs, e, pa⟩ := g.all (Nat.le_refl _)
          exact hq H' R xs ((s1.trans s2).trans g.1) ((s1.trans s2).free nR) e pa
      · have hc : SqT K (upd H1 c (.tup (cutV ((tp ns).map V.int) (some 1) none))) c (((tp ns).map V.int).drop 1) := SqT.of (by rw [upd_same, show (some (1 : Int)) = some ((1 : Nat) : Int) from rfl, cut_from])
        have s2 : Same H1 (upd H1 c (.tup (cutV ((tp ns).map V.int) (some 1) none))) := same_new nc
        refine ⟨t, c, (tp ns).map V.int, ((tp ns).map V.int).drop 1, rfl, .inr ⟨SqT.of (s2 _ _ et), hc, fun R nR => lc_it (walk_tups (K := K) (a := t) (b := c) (xs := (tp ns).map V.int) (ys := ((tp ns).map V.int).drop 1) (n := (tp ns).length - 1) (by rw [List.length_drop, List.length_map]; omega))
          (fun i H' => Prs _ R (tp ns) i H') (Prs.start _ nR) (fun i H' _ g => ⟨SqT.of (g.1 _ _ (s2 _ _ et)), SqT_same g.1 hc⟩) ?_ ?_⟩⟩
        · rintro i x H3 H4 hi g ⟨T, u, v, rfl, nT, rfl, g1, g2⟩
          have g1 : ((tp ns).map V.int)[i]? = some u := g1
          have g2 : (((tp ns).map V.int).drop 1)[i]? = some v := g2
          rw [List.getElem?_drop, Nat.add_comm 1 i] at g2
          obtain ⟨x, hx, rfl⟩ := int_at g1
          obtain ⟨y, hy, rfl⟩ := int_at g2
          refine ⟨T, [.int x, .int y], rfl, SqT.of upd_same, rfl, .int x, [.int y], rfl, .int y, [], rfl, rfl, rfl, ?_⟩
          refine iteT (B := True) ?_
          exact ⟨.int x, rfl, .int y, rfl, x, y, rfl, fun q nq => g.turn nR (same_new nT) nq hx hy hps⟩
        · intro H' g
          obtain ⟨xs, e, pa⟩ := g.all (Nat.le_refl _)
          exact hq H' R xs ((s1.trans s2).trans g.1) ((s1.trans s2).free nR) e pa
    · refine .inr ⟨a, ns, rfl, hS, hlen, fun H1 t s1 nt et => ?_⟩
      refine ⟨.ref t, rfl, .ref t, rfl, 1, rfl, t, (tp ns).map V.int, rfl, SqT.of et, fun hw => ?_, fun hn c nc => ?_⟩
      · have e0 : (tp ns).map V.int = [] := by
          have z := hw.1
          rw [show (some (1 : Int)) = some ((1 : Nat) : Int) from rfl, HT.sIx_nat] at z
          exact List.length_eq_zero_iff.mp (by omega)
        have hc : SqT K H1 t (((tp ns).map V.int).drop 1) := by
          rw [e0]
          rw [e0] at et
          exact SqT.of et
        have s2 := Same.refl H1
        refine ⟨t, t, (tp ns).map V.int, ((tp ns).map V.int).drop 1, rfl, .inr ⟨SqT.of (s2 _ _ et), hc, fun R nR => lc_it (walk_tups (K := K) (a := t) (b := t) (xs := (tp ns).map V.int) (ys := ((tp ns).map V.int).drop 1) (n := (tp ns).length - 1) (by rw [List.length_drop, List.length_map]; omega))
          (fun i H' => Prs H1 R (tp ns) i H') (Prs.start _ nR) (fun i H' _ g => ⟨SqT.of (g.1 _ _ (s2 _ _ et)), SqT_same g.1 hc⟩) ?_ ?_⟩⟩
        · rintro i x H3 H4 hi g ⟨T, u, v, rfl, nT, rfl, g1, g2⟩
          have g1 : ((tp ns).map V.int)[i]? = some u := g1
          have g2 : (((tp ns).map V.int).drop 1)[i]? = some v := g2
          rw [List.getElem?_drop, Nat.add_comm 1 i] at g2
          obtain ⟨x, hx, rfl⟩ := int_at g1
          obtain ⟨y, hy, rfl⟩ := int_at g2
          refine ⟨T, [.int x, .int y], rfl, SqT.of upd_same, rfl, .int x, [.int y], rfl, .int y, [], rfl, rfl, rfl, ?_⟩
          refine iteT (B := True) ?_
          exact ⟨.int x, rfl, .int y, rfl, x, y, rfl, fun q nq => g.turn nR (same_new nT) nq hx hy hps⟩
        · intro H' g
          obtain ⟨xs, e, pa⟩ := g.all (Nat.le_refl _)
          exact hq H' R xs ((s1.trans s2).trans g.1) ((s1.trans s2).free nR) e pa
      · have hc : SqT K (upd H1 c (.tup (cutV ((tp ns).map V.int) (some 1) none))) c (((tp ns).map V.int).drop 1) := SqT.of (by rw [upd_same, show (some (1 : Int)) = some ((1 : Nat) : Int) from rfl, cut_from])
        have s2 : Same H1 (upd H1 c (.tup (cutV ((tp ns).map V.int) (some 1) none))) := same_new nc
        refine ⟨t, c, (tp ns).map V.int, ((tp ns).map V.int).drop 1, rfl, .inr ⟨SqT.of (s2 _ _ et), hc, fun R nR => lc_it (walk_tups (K := K) (a := t) (b := c) (xs := (tp ns).map V.int) (ys := ((tp ns).map V.int).drop 1) (n := (tp ns).length - 1) (by rw [List.length_drop, List.length_map]; omega))
          (fun i H' => Prs _ R (tp ns) i H') (Prs.start _ nR) (fun i H' _ g => ⟨SqT.of (g.1 _ _ (s2 _ _ et)), SqT_same g.1 hc⟩) ?_ ?_⟩⟩
        · rintro i x H3 H4 hi g ⟨T, u, v, rfl, nT, rfl, g1, g2⟩
          have g1 : ((tp ns).map V.int)[i]? = some u := g1
          have g2 : (((tp ns).map V.int).drop 1)[i]? = some v := g2
          rw [List.getElem?_drop, Nat.add_comm 1 i] at g2
          obtain ⟨x, hx, rfl⟩ := int_at g1
          obtain ⟨y, hy, rfl⟩ := int_at g2
          refine ⟨T, [.int x, .int y], rfl, SqT.of upd_same, rfl, .int x, [.int y], rfl, .int y, [], rfl, rfl, rfl, ?_⟩
          refine iteT (B := True) ?_
          exact ⟨.int x, rfl, .int y, rfl, x, y, rfl, fun q nq => g.turn nR (same_new nT) nq hx hy hps⟩
        · intro H' g
          obtain ⟨xs, e, pa⟩ := g.all (Nat.le_refl _)
          exact hq H' R xs ((s1.trans s2).trans g.1) ((s1.trans s2).free nR) e pa
end
end PC

/-! places, points taken out -/
namespace QE
open PySem PySem.Spec PyProof.Rows L2 KA PH PM PA PB PC RM RN RS
abbrev sMT : Stmt := topS 11
abbrev sPB : Stmt := topS 12
abbrev sCo : Stmt := topS 13
abbrev sClass : Stmt := topS 14
abbrev sLaw : Stmt := topS 36
theorem scMT : FnScope ["points", "place", "size"] ["points", "place"] (defScope sMT) := ⟨rfl, rfl, rfl, by decide +kernel, rfl, by decide +kernel, by decide +kernel⟩
theorem Sq.ix {K : PySem.W.Frag} {H : Hp} {a : Addr} {xs : List V} {z : Int} {v : V} {Q : VK} (h : Sq K H a xs) (e : atI xs z = some v) (q : Q v H) : rIx K (.ref a) (.int z) H Q := by
  rcases h with h | h
  · exact .inl ⟨a, xs, z, v, rfl, rfl, h, e, q⟩
  · exact .inr (.inl ⟨a, xs, z, v, rfl, rfl, h, e, q⟩)
section
variable {P : Program} {w : World} {K : PySem.W.Frag} {mg : Str → Option Value} {base : Heap}
def spMT (K : PySem.W.Frag) : Sp := fun vs H Q _ => ∃ (a : Addr) (ps : List Int) (i : Nat) (z x y t u : Int), vs = [.ref a, .int z] ∧ z = (i : Int) + 1 ∧ Sq K H a (ps.map V.int) ∧ ZZ ps ∧ ps[i]? = some x ∧ ps[i + 1]? = some y ∧ ps[i + 2]? = some t ∧ ps[i + 3]? = some u ∧
  ∀ H', Same H H' → Q (.bl (takenAt ps i)) H'
theorem abs_i (i : Int) : (if i < 0 then -i else i) = (i.natAbs : Int) := by split <;> omega
theorem ok_MT {f : Addr} {fd : FuncData} {k : Nat} (F : Fun K "_may_be_taken" "_may_be_taken" sMT f fd) (ma : mg "abs" = none) : FnOk P w K mg base CX0 (k + 1) f fd ["points", "place"] (spMT K) := by
  refine F.ok scMT (fun vs H Q E h => ?_) (fun cdv A outer s H vs Q E hr h => ?_)
  · obtain ⟨a, ps, i, z, x, y, t, u, rfl, _⟩ := h
    rfl
  · obtain ⟨a, ps, i, z, x, y, t, u, rfl, rfl, hS, zz, e0, e1, e2, e3, hq⟩ := h
    refine ⟨_, pss_cons (ps_set (i := 2) scMT.nd rfl (.inl rfl) (pe_callB call_abs (by rfl) ma (by decide +kernel) (pa_cons (pe_op op_sub (pe_ix ix_seq (pv 0) (pe_op op_add (pv 1) pe_int) (fun _ _ => rfl)) (pe_ix ix_seq (pv 0) (pv 1) (fun _ _ => rfl))) pa_nil)))
      (pss_one (ps_ret (pe_and (pe_cmpR op_ge (pe_callB call_abs (by rfl) ma (by decide +kernel) (pa_cons (pe_op op_sub (pe_ix ix_seq (pv 0) (pv 1) (fun _ _ => rfl)) (pe_ix ix_seq (pv 0) (pe_op op_sub (pv 1) pe_int) (fun _ _ => rfl))) pa_nil)) (pv 2) (nomark _))
        (pe_one (pe_cmpR op_ge (pe_callB call_abs (by rfl) ma (by decide +kernel) (pa_cons (pe_op op_sub (pe_ix ix_seq (pv 0) (pe_op op_add (pv 1) pe_int) (fun _ _ => rfl)) (pe_ix ix_seq (pv 0) (pe_op op_add (pv 1) pe_int) (fun _ _ => rfl))) pa_nil)) (pv 2) (nomark _)))))), ?_⟩
    have a0 : atI (ps.map V.int) ((i : Int) + 1 - 1) = some (.int x) := at_of (j := i) (by omega) (at_int e0)
    have a1 : atI (ps.map V.int) ((i : Int) + 1) = some (.int y) := at_of (j := i + 1) (by omega) (at_int e1)
    have a2 : atI (ps.map V.int) ((i : Int) + 1 + 1) = some (.int t) := at_of (j := i + 2) (by omega) (at_int e2)
    have a3 : atI (ps.map V.int) ((i : Int) + 1 + 2) = some (.int u) := at_of (j := i + 3) (by omega) (at_int e3)
    have hq2 := hq H (Same.refl H)
    rw [taken_get e0 e1 e2 e3] at hq2
    have eT : decide (Taken x y t u) = (decide (((y - x).natAbs : Int) ≥ ((t - y).natAbs : Int)) && decide (((u - t).natAbs : Int) ≥ ((t - y).natAbs : Int))) := by
      rw [← Bool.decide_and, decide_eq_decide]
      exact taken_abs (zz_at zz e0 e1 e2 e3)
    rw [eT] at hq2
    refine ⟨.ref a, rfl, .int ((i : Int) + 1), rfl, _, 1, rfl, rfl, Sq.ix hS a2 ⟨.ref a, rfl, .int ((i : Int) + 1), rfl, Sq.ix hS a1 ⟨t, y, rfl, rfl, _, rfl, ?_⟩⟩⟩
    refine ⟨.ref a, rfl, .int ((i : Int) + 1), rfl, Sq.ix hS a1 ⟨.ref a, rfl, .int ((i : Int) + 1), rfl, _, 1, rfl, rfl, Sq.ix hS a0 ⟨y, x, rfl, rfl, _, rfl, ?_⟩⟩⟩
    refine ⟨_, rfl, _, _, rfl, rfl, _, rfl, ?_⟩
    rw [abs_i, abs_i]
    cases h1 : decide (((y - x).natAbs : Int) ≥ ((t - y).natAbs : Int)) with
    | true =>
      rw [h1, Bool.true_and] at hq2
      refine iteT ⟨.ref a, rfl, .int ((i : Int) + 1), rfl, _, 2, rfl, rfl, Sq.ix hS a3 ⟨.ref a, rfl, .int ((i : Int) + 1), rfl, _, 1, rfl, rfl, Sq.ix hS a2 ⟨u, t, rfl, rfl, _, rfl, ?_⟩⟩⟩
      refine ⟨_, rfl, _, _, rfl, rfl, ?_⟩
      rw [abs_i]
      exact hq2
    | false =>
      rw [h1, Bool.false_and] at hq2
      exact iteF hq2
def spRem (K : PySem.W.Frag) : Sp := fun vs H Q _ => ∃ (a : Addr) (ps : List Int), vs = [.ref a] ∧ Sq K H a (ps.map V.int) ∧ ZZ ps ∧ ps.length ≤ 2500 ∧ ∀ H' p, Same H H' → H p = none → H' p = some (.tup ((plc ps).map V.int)) → Q (.ref p) H'
end
end QE

/-! take; the stack -/
namespace QF
open PySem PySem.Spec PyProof.Rows L2 KA PH PM PA PB PC RM RN RS QE
theorem scPB : FnScope ["rest", "reading", "cycles"] ["rest", "reading"] (defScope sPB) := ⟨rfl, rfl, rfl, by decide +kernel, rfl, by decide +kernel, by decide +kernel⟩
theorem scCo : FnScope ["load", "cycles", "rest", "reading"] ["load"] (defScope sCo) := ⟨rfl, rfl, rfl, by decide +kernel, rfl, by decide +kernel, by decide +kernel⟩
theorem taken_all {ps : List Int} {i : Nat} (h : takenAt ps i = true) : ∃ x y t u, ps[i]? = some x ∧ ps[i + 1]? = some y ∧ ps[i + 2]? = some t ∧ ps[i + 3]? = some u := by
  have := taken_lt h
  exact ⟨_, _, _, _, List.getElem?_eq_getElem (by omega), List.getElem?_eq_getElem (by omega), List.getElem?_eq_getElem (by omega), List.getElem?_eq_getElem (by omega)⟩
section
variable {P : Program} {w : World} {K : PySem.W.Frag} {mg : Str → Option Value} {base : Heap}
def spIR (K : PySem.W.Frag) : Sp := fun vs H Q _ => ∃ (a : Addr) (ps : List Int) (i : Nat) (z : Int), vs = [.ref a, .int z] ∧ z = (i : Int) + 1 ∧ Sq K H a (ps.map V.int) ∧ ZZ ps ∧ takenAt ps i = true ∧ ∀ H', Same H H' → Q (.bl true) H'
def spNum : Sp := fun vs H Q _ => ∃ z : Int, vs = [.int z] ∧ Q (.bl true) H
end
end QF

/-! the stack -/
namespace QG
open PySem PySem.Spec PyProof.Rows L2 KA PH PM PA PB PC RM RN RS KD QE QF
theorem atI_last3 (xs : List V) (u v w : V) : atI (xs ++ [u, v, w]) (-3) = some u := by
  have hl : (xs ++ [u, v, w]).length = xs.length + 3 := by simp
  have h : ixN (xs ++ [u, v, w]).length (-3) = some xs.length := by
    unfold ixN
    rw [hl, if_neg (by decide), if_pos (by omega)]
    congr 1
    omega
  unfold atI
  rw [h]
  show (xs ++ [u, v, w])[xs.length]? = some u
  simp
theorem atI_last2' (xs : List V) (u v w : V) : atI (xs ++ [u, v, w]) (-2) = some v := by
  have := atI_last2 (xs ++ [u]) v w
  simpa using this
theorem last3 : ∀ {m : List Int}, 3 ≤ m.length → ∃ pre b c d, m = pre ++ [b, c, d] := by
  intro m h
  rcases List.eq_nil_or_concat m with rfl | ⟨m1, d, rfl⟩
  · simp at h
  · rcases List.eq_nil_or_concat m1 with rfl | ⟨m2, c, rfl⟩
    · simp at h
    · rcases List.eq_nil_or_concat m2 with rfl | ⟨m3, b, rfl⟩
      · simp at h
      · exact ⟨m3, b, c, d, by simp⟩
theorem pairs_upd {H : Hp} {R : Addr} {l l' : List V} (e : H R = some (.lst l)) : ∀ {xs : List V} {rs : List (Int × Int)}, PairsAt H xs rs → PairsAt (upd H R (.lst l')) xs rs
  | [], [], _ => trivial
  | x :: xs, r :: rs, ⟨⟨p, h1, h2⟩, h3⟩ => ⟨⟨p, h1, by rw [upd_ne (fun z => by rw [z, e] at h2; cases h2)]; exact h2⟩, pairs_upd e h3⟩
  | [], _ :: _, h => h.elim
  | _ :: _, [], h => h.elim
section
variable {P : Program} {w : World} {K : PySem.W.Frag} {mg : Str → Option Value} {base : Heap}
def spTPq (K : PySem.W.Frag) : Sp := fun vs H Q _ => ∃ (a : Addr) (ns : List Int), vs = [.ref a] ∧ Sq K H a (ns.map V.int) ∧ ns.length ≤ 2500 ∧ ∀ H' p, Same H H' → H p = none → H' p = some (.tup ((tp ns).map V.int)) → Q (.ref p) H'
theorem tpq_of {k : Nat} {f : Addr} {fd : FuncData} (G : FnOk P w K mg base CX0 k f fd ["load"] (spTP K)) : FnOk P w K mg base CX0 k f fd ["load"] (spTPq K) :=
  G.imp fun vs H Q E ⟨a, ns, e, hs, hl, q⟩ => hs.elim (fun z => .inl ⟨a, ns, e, z, hl, q⟩) (fun z => .inr ⟨a, ns, e, z, hl, q⟩)
theorem ch_pairs {f : Addr} {H H' : Hp} {l : List V} (c : Ch f H H') (e : H f = some (.lst l)) : ∀ {xs : List V} {rs : List (Int × Int)}, PairsAt H xs rs → PairsAt H' xs rs
  | [], [], _ => trivial
  | x :: xs, r :: rs, ⟨⟨p, h1, h2⟩, h3⟩ => ⟨⟨p, h1, c _ _ (fun z => by rw [z, e] at h2; cases h2) h2⟩, ch_pairs c e h3⟩
  | [], _ :: _, h => h.elim
  | _ :: _, [], h => h.elim
/-- what put_behind holds -/
structure Bhd (H : Hp) (C R : Addr) (xs : List V) (cs : List (Int × Int)) (rs : List Int) (Hx : Hp) : Prop where
  ch : Ch R H Hx
  c : Hx C = some (.lst xs)
  pa : PairsAt Hx xs cs
  r : Hx R = some (.lst (rs.map V.int))
theorem Bhd.same {H : Hp} {C R : Addr} {xs : List V} {cs : List (Int × Int)} {rs : List Int} {H1 H2 : Hp} (g : Bhd H C R xs cs rs H1) (s : Same H1 H2) : Bhd H C R xs cs rs H2 :=
  ⟨g.ch.trans (.of_same s), s _ _ g.c, g.pa.same s, s _ _ g.r⟩
theorem Bhd.rest {H : Hp} {C R : Addr} {xs : List V} {cs : List (Int × Int)} {rs : List Int} {H1 : Hp} (g : Bhd H C R xs cs rs H1) (nCR : C ≠ R) (rs' : List Int) : Bhd H C R xs cs rs' (upd H1 R (.lst (rs'.map V.int))) :=
  ⟨g.ch.trans .put, by rw [upd_ne nCR]; exact g.c, pairs_upd g.r g.pa, upd_same⟩
theorem Bhd.cyc {H : Hp} {C R q : Addr} {xs : List V} {cs : List (Int × Int)} {rs : List Int} {H1 : Hp} {c : Int × Int} (g : Bhd H C R xs cs rs H1) (nC : H C = none) (nCR : C ≠ R) (hq : H1 q = some (.tup [.int c.1, .int c.2])) :
    Bhd H C R (xs ++ [.ref q]) (cs ++ [c]) rs (upd H1 C (.lst (xs ++ [.ref q]))) :=
  ⟨Ch.again nC g.ch, upd_same, PairsAt.append (pairs_upd g.c g.pa) ⟨⟨q, rfl, by rw [upd_ne (fun z => by rw [z, g.c] at hq; cases hq)]; exact hq⟩, trivial⟩, by rw [upd_ne nCR.symm]; exact g.r⟩
def spPB : Sp := fun vs H Q _ => ∃ (R : Addr) (rs : List Int) (r : Int), vs = [.ref R, .int r] ∧ H R = some (.lst (rs.map V.int)) ∧ ZZ rs ∧ NF rs ∧ rs.length ≤ 2500 ∧
  ∀ H' p xs cs rs', Ch R H H' → H p = none → H' p = some (.lst xs) → PairsAt H' xs cs → H' R = some (.lst (rs'.map V.int)) → Run (push rs r) cs rs' → NF rs' → Q (.ref p) H'
theorem ok_PB {f fL fM fR : Addr} {fd fdL fdM fdR : FuncData} {k : Nat} (F : Fun K "put_behind" "put_behind" sPB f fd)
    (GL : FnOk P w K mg base CX0 (k + 2) fL fdL ["points", "reading"] (spLO K)) (gL : mg "is_left_out" = some (.ref fL)) (kL : PySem.W.keepIn K (.ref fL) = true) (bL : Binds K fdL ["points", "reading"] [])
    (GM : FnOk P w K mg base CX0 (k + 2) fM fdM ["points", "place"] (spMT K)) (gM : mg "_may_be_taken" = some (.ref fM)) (kM : PySem.W.keepIn K (.ref fM) = true) (bM : Binds K fdM ["points", "place"] [])
    (GR : FnOk P w K mg base CX0 (k + 2) fR fdR ["one", "other"] spRng) (gR : mg "range_of" = some (.ref fR)) (kR : PySem.W.keepIn K (.ref fR) = true) (bR : Binds K fdR ["one", "other"] [])
    (ml : mg "len" = none) : FnOk P w K mg base CX0 (k + 3) f fd ["rest", "reading"] spPB := by
  refine F.ok scPB (fun vs H Q E h => ?_) (fun cdv A outer s H vs Q E hr h => ?_)
  · obtain ⟨R, rs, r, rfl, _⟩ := h
    rfl
  · obtain ⟨R, rs0, r, rfl, eR, zz0, nf0, hlen, hq⟩ := h
    refine ⟨_, pss_cons (ps_if (pt_val (pe_call GL hr (by rfl) gL kL bL .nil pass0 (pa_cons (pv 0) (pa_cons (pv 1) pa_nil))))
          (pss_one (ps_expr (pe_bm0 PySem.F.plainAttrs_list PySem.F.slot_list_pop PySem.F.type_list_pop mt_pop (pv 0)))) pss_nil)
      (pss_cons (ps_expr (pe_bm PySem.F.plainAttrs_list PySem.F.slot_list_append PySem.F.type_list_append mt_append (pv 0) (pa_cons (pv 1) pa_nil)))
      (pss_cons (ps_set (i := 2) scPB.nd rfl (.inl rfl) (pe_lst pa_nil))
      (pss_cons (ps_while PassesOwn.never
            (PW.pt (pw_and (pt_cmpR op_gt (pe_callB call_len_seq (by rfl) ml PySem.boot_len (pa_cons (pv 0) pa_nil)) pe_int (nomark _)) (pw_and1 (pt_val (pe_call GM hr (by rfl) gM kM bM .nil pass0 (pa_cons (pv 0) (pa_cons (pe_op op_sub (pe_callB call_len_seq (by rfl) ml PySem.boot_len (pa_cons (pv 0) pa_nil)) pe_int) pa_nil)))))))
            (pss_cons (ps_expr (pe_bm PySem.F.plainAttrs_list PySem.F.slot_list_append PySem.F.type_list_append mt_append (pv 2) (pa_cons (pe_call GR hr (by rfl) gR kR bR .nil pass0 (pa_cons (pe_ix ix_list (pv 0) (pe_un un_neg pe_int) (fun _ _ => rfl)) (pa_cons (pe_ix ix_list (pv 0) (pe_un un_neg pe_int) (fun _ _ => rfl)) pa_nil))) pa_nil)))
              (pss_one (DS.ps_del31 (pv 0) (po_some (pe_un un_neg pe_int)) (po_some (pe_un un_neg pe_int))))))
      (pss_one (ps_ret (pv 2)))))), ?_⟩
    have zz1 : ZZ (push rs0 r) := zz_push r zz0
    have hp := push_lo rs0 r
    have hpl := push_len rs0 r
    refine ⟨.ref R, rfl, .int r, rfl, R, rs0, r, rfl, SqL.of eR, _, rfl, ?_⟩
    obtain ⟨m, nfm, em, hm1⟩ : ∃ m, NF m ∧ push rs0 r = m ++ [r] ∧ m = (if lo rs0 r = true then rs0.dropLast else rs0) := by
      refine ⟨_, ?_, hp, rfl⟩
      split
      · rcases List.eq_nil_or_concat rs0 with h | ⟨m1, d, h⟩
        · rw [h] at nf0 ⊢
          exact nf0
        · have h : rs0 = m1 ++ [d] := by rw [h]; simp
          rw [h] at nf0 ⊢
          rw [List.dropLast_concat]
          exact nf_prefix nf0
      · exact nf0
    rw [em] at zz1 hpl hq
    have hml : m.length ≤ 2500 := by
      rw [hm1]
      split
      · rw [List.length_dropLast]; omega
      · exact hlen
    have e1 : m.map V.int ++ [V.int r] = (m ++ [r]).map V.int := by rw [List.map_append]; rfl
    have start : ∀ C, (upd H R (.lst ((m ++ [r]).map V.int))) C = none → Bhd H C R [] [] (m ++ [r]) (upd (upd H R (.lst ((m ++ [r]).map V.int))) C (.lst [])) ∧ C ≠ R ∧ H C = none := by
      intro C nC
      have nCR : C ≠ R := fun z => by rw [z, upd_same] at nC; cases nC
      have nC0 : H C = none := by rw [upd_ne nCR] at nC; exact nC
      refine ⟨⟨.again nC0 .put, upd_same, trivial, by rw [upd_ne nCR.symm, upd_same]⟩, nCR, nC0⟩
    cases hl : lo rs0 r
    · rw [hl, if_neg (by decide)] at hm1
      subst hm1
      refine iteF ?_
      refine ⟨.ref R, rfl, .inl ⟨rfl, _, SqL.of eR⟩, .int r, rfl, R, _, _, rfl, rfl, eR, by rw [List.length_map]; exact small3000 (by omega), ?_⟩
      rw [e1]
      refine ⟨Nat.zero_le _, fun C nC => ?_⟩
      obtain ⟨g1, nCR, nC0⟩ := start C nC
      generalize upd (upd H R (.lst ((m ++ [r]).map V.int))) C (.lst []) = Hs at g1 ⊢
      refine ⟨fun n σ Hx => ∃ (xs : List V) (cs : List (Int × Int)) (mm : List Int), n = mm.length ∧ σ = [some (.ref R), some (.int r), some (.ref C)] ∧ Bhd H C R xs cs (mm ++ [r]) Hx ∧ Run (m ++ [r]) cs (mm ++ [r]) ∧ NF mm,
        ⟨_, [], [], m, rfl, rfl, g1, .nil _, nfm⟩, ?_⟩
      clear g1
      rintro n σ Hx ⟨xs, cs, mm, rfl, rfl, g, run, nf⟩
      have hrl := run.len
      simp only [List.length_append, List.length_singleton] at hrl
      have zzm := run.zz zz1
      have hm : ((mm ++ [r]).map V.int).length = mm.length + 1 := by simp
      refine ⟨.ref R, rfl, R, _, rfl, .inl (SqL.of g.r), _, 3, rfl, rfl, _, rfl, ?_⟩
      by_cases h3 : 3 ≤ mm.length
      · rw [show decide ((((mm ++ [r]).map V.int).length : Int) > 3) = true from decide_eq_true (by rw [hm]; omega)]
        obtain ⟨pre, b, c, d, rfl⟩ := last3 h3
        have hml : (pre ++ [b, c, d]).length = pre.length + 3 := by simp
        have el : pre ++ [b, c, d] ++ [r] = pre ++ b :: c :: d :: r :: [] := by simp
        have q0 : (pre ++ [b, c, d] ++ [r])[pre.length]? = some b := by rw [el, List.getElem?_append_right (by omega)]; simp
        have q1 : (pre ++ [b, c, d] ++ [r])[pre.length + 1]? = some c := by rw [el, List.getElem?_append_right (by omega)]; simp
        have q2 : (pre ++ [b, c, d] ++ [r])[pre.length + 2]? = some d := by rw [el, List.getElem?_append_right (by omega)]; simp
        have q3 : (pre ++ [b, c, d] ++ [r])[pre.length + 3]? = some r := by rw [el, List.getElem?_append_right (by omega)]; simp
        refine iteT ⟨.ref R, rfl, .ref R, rfl, R, _, rfl, .inl (SqL.of g.r), _, 3, rfl, rfl, R, pre ++ [b, c, d] ++ [r], pre.length, _, b, c, d, r, rfl, by rw [hm, hml]; omega, .inl (SqL.of g.r), zzm, q0, q1, q2, q3, fun H2 s2 => ⟨_, rfl, ?_⟩⟩
        have g2 := g.same s2
        rw [taken_get q0 q1 q2 q3]
        by_cases tk : Taken b c d r
        · rw [decide_eq_true tk]
          refine iteT ⟨fun σ Hx => ∃ m', m' < (pre ++ [b, c, d]).length ∧ ∃ (xs : List V) (cs : List (Int × Int)) (mm : List Int), m' = mm.length ∧ σ = [some (.ref R), some (.int r), some (.ref C)] ∧ Bhd H C R xs cs (mm ++ [r]) Hx ∧ Run (m ++ [r]) cs (mm ++ [r]) ∧ NF mm, fun _ _ z => z, ?_⟩
          have eR : H2 R = some (.lst ((pre ++ [b]).map V.int ++ [V.int c, V.int d, V.int r])) := by
            rw [g2.r]
            simp [List.map_append]
          refine ⟨.ref C, rfl, .inl ⟨rfl, _, SqL.of g2.c⟩, .ref R, rfl, 3, rfl, R, _, -3, .int c, rfl, rfl, SqL.of eR, atI_last3 _ _ _ _, .ref R, rfl, 2, rfl, R, _, -2, .int d, rfl, rfl, SqL.of eR, atI_last2' _ _ _ _, c, d, rfl, fun q nq => ?_⟩
          have s3 := same_new (o := .tup [.int (rg c d).1, .int (rg c d).2]) nq
          have g3 := (g2.same s3).cyc nC0 nCR (upd_same (H := H2) (a := q) (o := .tup [.int (rg c d).1, .int (rg c d).2]))
          have hxl : xs.length ≤ 2500 := by rw [g2.pa.length]; omega
          refine ⟨C, xs, .ref q, rfl, rfl, s3 _ _ g2.c, small3000 (by omega), ?_⟩
          have eR3 : (upd (upd H2 q (.tup [.int (rg c d).1, .int (rg c d).2])) C (.lst (xs ++ [.ref q]))) R = some (.lst ((pre ++ [b]).map V.int ++ [V.int c, V.int d, V.int r])) := by
            rw [upd_ne nCR.symm]
            exact s3 _ _ eR
          refine ⟨.ref R, rfl, 3, rfl, _, rfl, 1, rfl, _, rfl, rfl, rfl, R, (pre ++ [b]).map V.int, .int c, .int d, .int r, rfl, eR3, ?_⟩
          have g4 := g3.rest nCR (pre ++ [b] ++ [r])
          have e5 : (pre ++ [b]).map V.int ++ [V.int r] = (pre ++ [b] ++ [r]).map V.int := by simp [List.map_append]
          rw [e5]
          refine ⟨(pre ++ [b]).length, by simp, _, _, pre ++ [b], rfl, rfl, g4, ?_, nf_prefix (l := [c, d]) (by simpa using nf)⟩
          refine run.snoc ?_
          rw [el, List.append_assoc]
          exact (Step.here tk).prefix pre
        · rw [decide_eq_false tk]
          refine iteF ?_
          refine ⟨.ref C, rfl, hq _ C xs cs _ g2.ch nC0 g2.c g2.pa g2.r run (nf_push nf fun pre' b' c' d' e => ?_)⟩
          have e6 : pre' ++ [b', c', d', r] = (pre' ++ [b', c', d']) ++ [r] := by simp
          rw [e6] at e
          obtain ⟨e7, _⟩ := List.append_inj' e rfl
          obtain ⟨_, e8⟩ := List.append_inj' e7 rfl
          injection e8 with h1 h2
          injection h2 with h2 h3
          injection h3 with h3 _
          subst h1 h2 h3
          exact tk
      · rw [show decide ((((mm ++ [r]).map V.int).length : Int) > 3) = false from decide_eq_false (by rw [hm]; omega)]
        refine iteF ?_
        refine iteF ?_
        refine ⟨.ref C, rfl, hq _ C xs cs _ g.ch nC0 g.c g.pa g.r run (nf_push nf fun pre' b' c' d' e => ?_)⟩
        have : (mm ++ [r]).length = (pre' ++ [b', c', d', r]).length := by rw [e]
        simp only [List.length_append, List.length_cons, List.length_nil] at this
        omega
    · rw [hl, if_pos rfl] at hm1
      obtain ⟨u, hu⟩ : ∃ u, rs0 = m ++ [u] := by
        rcases List.eq_nil_or_concat rs0 with h | ⟨m1, d, h⟩
        · rw [h] at hl; cases hl
        · refine ⟨d, ?_⟩
          rw [hm1, h]
          simp
      have eR2 : H R = some (.lst (m.map V.int ++ [V.int u])) := by rw [eR, hu]; simp
      refine iteT ⟨.ref R, rfl, .inl ⟨rfl, _, SqL.of eR⟩, R, m.map V.int ++ [V.int u], .int u, rfl, rfl, eR2, by simp, ?_⟩
      refine ⟨.ref R, rfl, .inl ⟨rfl, _, SqL.of upd_same⟩, .int r, rfl, R, m.map V.int, _, rfl, rfl, by rw [upd_same, List.dropLast_concat], by rw [List.length_map]; exact small3000 (by omega), ?_⟩
      rw [upd_upd, e1]
      refine ⟨Nat.zero_le _, fun C nC => ?_⟩
      obtain ⟨g1, nCR, nC0⟩ := start C nC
      generalize upd (upd H R (.lst ((m ++ [r]).map V.int))) C (.lst []) = Hs at g1 ⊢
      refine ⟨fun n σ Hx => ∃ (xs : List V) (cs : List (Int × Int)) (mm : List Int), n = mm.length ∧ σ = [some (.ref R), some (.int r), some (.ref C)] ∧ Bhd H C R xs cs (mm ++ [r]) Hx ∧ Run (m ++ [r]) cs (mm ++ [r]) ∧ NF mm,
        ⟨_, [], [], m, rfl, rfl, g1, .nil _, nfm⟩, ?_⟩
      clear g1
      rintro n σ Hx ⟨xs, cs, mm, rfl, rfl, g, run, nf⟩
      have hrl := run.len
      simp only [List.length_append, List.length_singleton] at hrl
      have zzm := run.zz zz1
      have hm : ((mm ++ [r]).map V.int).length = mm.length + 1 := by simp
      refine ⟨.ref R, rfl, R, _, rfl, .inl (SqL.of g.r), _, 3, rfl, rfl, _, rfl, ?_⟩
      by_cases h3 : 3 ≤ mm.length
      · rw [show decide ((((mm ++ [r]).map V.int).length : Int) > 3) = true from decide_eq_true (by rw [hm]; omega)]
        obtain ⟨pre, b, c, d, rfl⟩ := last3 h3
        have hml : (pre ++ [b, c, d]).length = pre.length + 3 := by simp
        have el : pre ++ [b, c, d] ++ [r] = pre ++ b :: c :: d :: r :: [] := by simp
        have q0 : (pre ++ [b, c, d] ++ [r])[pre.length]? = some b := by rw [el, List.getElem?_append_right (by omega)]; simp
        have q1 : (pre ++ [b, c, d] ++ [r])[pre.length + 1]? = some c := by rw [el, List.getElem?_append_right (by omega)]; simp
        have q2 : (pre ++ [b, c, d] ++ [r])[pre.length + 2]? = some d := by rw [el, List.getElem?_append_right (by omega)]; simp
        have q3 : (pre ++ [b, c, d] ++ [r])[pre.length + 3]? = some r := by rw [el, List.getElem?_append_right (by omega)]; simp
        refine iteT ⟨.ref R, rfl, .ref R, rfl, R, _, rfl, .inl (SqL.of g.r), _, 3, rfl, rfl, R, pre ++ [b, c, d] ++ [r], pre.length, _, b, c, d, r, rfl, by rw [hm, hml]; omega, .inl (SqL.of g.r), zzm, q0, q1, q2, q3, fun H2 s2 => ⟨_, rfl, ?_⟩⟩
        have g2 := g.same s2
        rw [taken_get q0 q1 q2 q3]
        by_cases tk : Taken b c d r
        · rw [decide_eq_true tk]
          refine iteT ⟨fun σ Hx => ∃ m', m' < (pre ++ [b, c, d]).length ∧ ∃ (xs : List V) (cs : List (Int × Int)) (mm : List Int), m' = mm.length ∧ σ = [some (.ref R), some (.int r), some (.ref C)] ∧ Bhd H C R xs cs (mm ++ [r]) Hx ∧ Run (m ++ [r]) cs (mm ++ [r]) ∧ NF mm, fun _ _ z => z, ?_⟩
          have eR : H2 R = some (.lst ((pre ++ [b]).map V.int ++ [V.int c, V.int d, V.int r])) := by
            rw [g2.r]
            simp [List.map_append]
          refine ⟨.ref C, rfl, .inl ⟨rfl, _, SqL.of g2.c⟩, .ref R, rfl, 3, rfl, R, _, -3, .int c, rfl, rfl, SqL.of eR, atI_last3 _ _ _ _, .ref R, rfl, 2, rfl, R, _, -2, .int d, rfl, rfl, SqL.of eR, atI_last2' _ _ _ _, c, d, rfl, fun q nq => ?_⟩
          have s3 := same_new (o := .tup [.int (rg c d).1, .int (rg c d).2]) nq
          have g3 := (g2.same s3).cyc nC0 nCR (upd_same (H := H2) (a := q) (o := .tup [.int (rg c d).1, .int (rg c d).2]))
          have hxl : xs.length ≤ 2500 := by rw [g2.pa.length]; omega
          refine ⟨C, xs, .ref q, rfl, rfl, s3 _ _ g2.c, small3000 (by omega), ?_⟩
          have eR3 : (upd (upd H2 q (.tup [.int (rg c d).1, .int (rg c d).2])) C (.lst (xs ++ [.ref q]))) R = some (.lst ((pre ++ [b]).map V.int ++ [V.int c, V.int d, V.int r])) := by
            rw [upd_ne nCR.symm]
            exact s3 _ _ eR
          refine ⟨.ref R, rfl, 3, rfl, _, rfl, 1, rfl, _, rfl, rfl, rfl, R, (pre ++ [b]).map V.int, .int c, .int d, .int r, rfl, eR3, ?_⟩
          have g4 := g3.rest nCR (pre ++ [b] ++ [r])
          have e5 : (pre ++ [b]).map V.int ++ [V.int r] = (pre ++ [b] ++ [r]).map V.int := by simp [List.map_append]
          rw [e5]
          refine ⟨(pre ++ [b]).length, by simp, _, _, pre ++ [b], rfl, rfl, g4, ?_, nf_prefix (l := [c, d]) (by simpa using nf)⟩
          refine run.snoc ?_
          rw [el, List.append_assoc]
          exact (Step.here tk).prefix pre
        · rw [decide_eq_false tk]
          refine iteF ?_
          refine ⟨.ref C, rfl, hq _ C xs cs _ g2.ch nC0 g2.c g2.pa g2.r run (nf_push nf fun pre' b' c' d' e => ?_)⟩
          have e6 : pre' ++ [b', c', d', r] = (pre' ++ [b', c', d']) ++ [r] := by simp
          rw [e6] at e
          obtain ⟨e7, _⟩ := List.append_inj' e rfl
          obtain ⟨_, e8⟩ := List.append_inj' e7 rfl
          injection e8 with h1 h2
          injection h2 with h2 h3
          injection h3 with h3 _
          subst h1 h2 h3
          exact tk
      · rw [show decide ((((mm ++ [r]).map V.int).length : Int) > 3) = false from decide_eq_false (by rw [hm]; omega)]
        refine iteF ?_
        refine iteF ?_
        refine ⟨.ref C, rfl, hq _ C xs cs _ g.ch nC0 g.c g.pa g.r run (nf_push nf fun pre' b' c' d' e => ?_)⟩
        have : (mm ++ [r]).length = (pre' ++ [b', c', d', r]).length := by rw [e]
        simp only [List.length_append, List.length_cons, List.length_nil] at this
        omega
/-- what _counted holds -/
structure Stk (H : Hp) (C R : Addr) (xs : List V) (cs : List (Int × Int)) (rs : List Int) (Hx : Hp) : Prop where
  sm : Same H Hx
  c : Hx C = some (.lst xs)
  pa : PairsAt Hx xs cs
  r : Hx R = some (.lst (rs.map V.int))
def spCoL (K : PySem.W.Frag) : Sp := fun vs H Q _ => ∃ (a : Addr) (ns : List Int), vs = [.ref a] ∧ SqL K H a (ns.map V.int) ∧ ns.length ≤ 2500 ∧
  ∀ H' p c r xs cs rs, Same H H' → H p = none → H' p = some (.tup [.ref c, .ref r]) → H' c = some (.lst xs) → PairsAt H' xs cs → H' r = some (.lst (rs.map V.int)) → Run (tp ns) cs rs → NF rs → Q (.ref p) H'
def spCoT (K : PySem.W.Frag) : Sp := fun vs H Q _ => ∃ (a : Addr) (ns : List Int), vs = [.ref a] ∧ SqT K H a (ns.map V.int) ∧ ns.length ≤ 2500 ∧
  ∀ H' p c r xs cs rs, Same H H' → H p = none → H' p = some (.tup [.ref c, .ref r]) → H' c = some (.lst xs) → PairsAt H' xs cs → H' r = some (.lst (rs.map V.int)) → Run (tp ns) cs rs → NF rs → Q (.ref p) H'
theorem ok_Col {f fB : Addr} {fd fdB : FuncData} {k : Nat} (F : Fun K "_counted" "_counted" sCo f fd)
    (GB : FnOk P w K mg base CX0 (k + 3) fB fdB ["rest", "reading"] spPB) (gB : mg "put_behind" = some (.ref fB)) (kB : PySem.W.keepIn K (.ref fB) = true) (bB : Binds K fdB ["rest", "reading"] []) :
    FnOk P w K mg base CX0 (k + 4) f fd ["load"] (spCoL K) := by
  refine F.ok scCo (fun vs H Q E h => ?_) (fun cdv A outer s H vs Q E hr h => ?_)
  · obtain ⟨a, ns, rfl, _⟩ := h
    rfl
  · obtain ⟨a, ns, rfl, hS, hlen, hq⟩ := h
    refine ⟨_, pss_cons (ps_par (i := 1) (j := 2) (by rfl) scCo.nd rfl rfl (by decide) rfl rfl (pa_cons (pe_lst pa_nil) (pa_cons (pe_lst pa_nil) pa_nil)) (by rfl))
      (pss_cons (ps_for PassesOwn.never rfl (pi_list (pv 0)) (pg_name (i := 3) scCo.nd rfl (.inl rfl))
        (pss_one (ps_expr (pe_bm PySem.F.plainAttrs_list PySem.F.slot_list_extend PySem.F.type_list_extend mt_extend (pv 1) (pa_cons (pe_call GB hr (by rfl) gB kB bB .nil pass0 (pa_cons (pv 2) (pa_cons (pv 3) pa_nil))) pa_nil)))))
      (pss_one (ps_ret (pe_tup (pa_cons (pv 1) (pa_cons (pv 2) pa_nil)))))), ?_⟩
    refine ⟨Nat.zero_le _, fun C nC => ⟨Nat.zero_le _, fun R nR => ⟨.ref C, .ref R, rfl, ?_⟩⟩⟩
    have nCR : C ≠ R := fun z => by rw [← z, upd_same] at nR; cases nR
    have nR0 : H R = none := (same_new nC).free nR
    have sm0 : Same H (upd (upd H C (.lst [])) R (.lst [])) := (same_new nC).trans (same_new nR)
    have eC0 : (upd (upd H C (.lst [])) R (.lst [])) C = some (.lst []) := by rw [upd_ne nCR, upd_same]
    have eR0 : (upd (upd H C (.lst [])) R (.lst [])) R = some (.lst []) := upd_same
    generalize upd (upd H C (.lst [])) R (.lst []) = H0 at sm0 eC0 eR0 ⊢
    have hts : ∀ i, tp (ns.take i) = tp (ns.take i) := fun _ => rfl
    refine ⟨.ref a, rfl, a, rfl, ⟨_, sm0.seq hS⟩, for_list (K := K) (a := a) (xs := ns.map V.int) (fun i σ Hx => ∃ (xs : List V) (cs : List (Int × Int)) (rs : List Int) (r3 : Option V), σ = [some (.ref a), some (.ref C), some (.ref R), r3] ∧
      Stk H C R xs cs rs Hx ∧ Run (tp (ns.take i)) cs rs ∧ NF rs) ?_ ?_ ?_ ?_⟩
    · exact ⟨[], [], [], none, rfl, ⟨sm0, eC0, trivial, eR0⟩, .nil _, fun c q s => by have := s.len; simp at this⟩
    · rintro i σ Hx _ ⟨xs, cs, rs, r3, rfl, g, _⟩
      exact g.sm.seq hS
    · rintro i x σ Hx hx ⟨xs, cs, rs, r3, rfl, g, run, nf⟩
      obtain ⟨r, hr2, rfl⟩ := int_at hx
      have hin : i < ns.length := (List.getElem?_eq_some_iff.mp hr2).1
      have hrl := run.len
      have htl := tp_len (ns.take i)
      rw [List.length_take] at htl
      have zz := run.zz (tp_zz (ns.take i))
      refine ⟨.ref C, rfl, .inl ⟨rfl, _, SqL.of g.c⟩, .ref R, rfl, .int r, rfl, R, rs, r, rfl, g.r, zz, nf, by omega, fun H2 p ys cs2 rs2 ch np ep pa2 eR2 run2 nf2 => ?_⟩
      have eC2 : H2 C = some (.lst xs) := ch _ _ nCR g.c
      have npC : p ≠ C := fun z => by rw [z, g.c] at np; cases np
      have npR : p ≠ R := fun z => by rw [z, g.r] at np; cases np
      have sm2 : Same H H2 := fun b o e => ch b o (ne_of_none e nR0) (g.sm b o e)
      have run3 := stream hr2 run run2
      have hrl3 := run3.len
      have htl3 := tp_len (ns.take (i + 1))
      rw [List.length_take] at htl3
      have hxl := g.pa.length
      have hyl := pa2.length
      rw [List.length_append] at hrl3
      refine ⟨C, p, xs, ys, rfl, rfl, eC2, ep, Nat.le_of_lt (small3000 (by omega)), _, cs ++ cs2, rs2, _, rfl, ⟨same_again nC sm2, upd_same, ?_, by rw [upd_ne nCR.symm]; exact eR2⟩, run3, nf2⟩
      exact PairsAt.append (pairs_upd eC2 (ch_pairs ch g.r g.pa)) (pairs_upd eC2 pa2)
    · rintro σ Hx ⟨xs, cs, rs, r3, rfl, g, run, nf⟩
      have et2 : ns.take (ns.map V.int).length = ns := by rw [List.length_map]; exact List.take_length
      rw [et2] at run
      refine ⟨.ref C, rfl, .ref R, rfl, by show 2 ≤ sizeLine; decide, fun p np => ?_⟩
      have sp := same_new (o := .tup [.ref C, .ref R]) np
      exact hq _ p C R xs cs rs (g.sm.trans sp) (g.sm.free np) upd_same (sp _ _ g.c) (g.pa.same sp) (sp _ _ g.r) run nf
theorem ok_Cot {f fB : Addr} {fd fdB : FuncData} {k : Nat} (F : Fun K "_counted" "_counted" sCo f fd)
    (GB : FnOk P w K mg base CX0 (k + 3) fB fdB ["rest", "reading"] spPB) (gB : mg "put_behind" = some (.ref fB)) (kB : PySem.W.keepIn K (.ref fB) = true) (bB : Binds K fdB ["rest", "reading"] []) :
    FnOk P w K mg base CX0 (k + 4) f fd ["load"] (spCoT K) := by
  refine F.ok scCo (fun vs H Q E h => ?_) (fun cdv A outer s H vs Q E hr h => ?_)
  · obtain ⟨a, ns, rfl, _⟩ := h
    rfl
  · obtain ⟨a, ns, rfl, hS, hlen, hq⟩ := h
    refine ⟨_, pss_cons (ps_par (i := 1) (j := 2) (by rfl) scCo.nd rfl rfl (by decide) rfl rfl (pa_cons (pe_lst pa_nil) (pa_cons (pe_lst pa_nil) pa_nil)) (by rfl))
      (pss_cons (ps_for PassesOwn.never rfl (pi_tup (pv 0)) (pg_name (i := 3) scCo.nd rfl (.inl rfl))
        (pss_one (ps_expr (pe_bm PySem.F.plainAttrs_list PySem.F.slot_list_extend PySem.F.type_list_extend mt_extend (pv 1) (pa_cons (pe_call GB hr (by rfl) gB kB bB .nil pass0 (pa_cons (pv 2) (pa_cons (pv 3) pa_nil))) pa_nil)))))
      (pss_one (ps_ret (pe_tup (pa_cons (pv 1) (pa_cons (pv 2) pa_nil)))))), ?_⟩
    refine ⟨Nat.zero_le _, fun C nC => ⟨Nat.zero_le _, fun R nR => ⟨.ref C, .ref R, rfl, ?_⟩⟩⟩
    have nCR : C ≠ R := fun z => by rw [← z, upd_same] at nR; cases nR
    have nR0 : H R = none := (same_new nC).free nR
    have sm0 : Same H (upd (upd H C (.lst [])) R (.lst [])) := (same_new nC).trans (same_new nR)
    have eC0 : (upd (upd H C (.lst [])) R (.lst [])) C = some (.lst []) := by rw [upd_ne nCR, upd_same]
    have eR0 : (upd (upd H C (.lst [])) R (.lst [])) R = some (.lst []) := upd_same
    generalize upd (upd H C (.lst [])) R (.lst []) = H0 at sm0 eC0 eR0 ⊢
    have hts : ∀ i, tp (ns.take i) = tp (ns.take i) := fun _ => rfl
    refine ⟨.ref a, rfl, a, rfl, ⟨_, SqT_same sm0 hS⟩, for_tup (K := K) (a := a) (xs := ns.map V.int) (fun i σ Hx => ∃ (xs : List V) (cs : List (Int × Int)) (rs : List Int) (r3 : Option V), σ = [some (.ref a), some (.ref C), some (.ref R), r3] ∧
      Stk H C R xs cs rs Hx ∧ Run (tp (ns.take i)) cs rs ∧ NF rs) ?_ ?_ ?_ ?_⟩
    · exact ⟨[], [], [], none, rfl, ⟨sm0, eC0, trivial, eR0⟩, .nil _, fun c q s => by have := s.len; simp at this⟩
    · rintro i σ Hx _ ⟨xs, cs, rs, r3, rfl, g, _⟩
      exact SqT_same g.sm hS
    · rintro i x σ Hx hx ⟨xs, cs, rs, r3, rfl, g, run, nf⟩
      obtain ⟨r, hr2, rfl⟩ := int_at hx
      have hin : i < ns.length := (List.getElem?_eq_some_iff.mp hr2).1
      have hrl := run.len
      have htl := tp_len (ns.take i)
      rw [List.length_take] at htl
      have zz := run.zz (tp_zz (ns.take i))
      refine ⟨.ref C, rfl, .inl ⟨rfl, _, SqL.of g.c⟩, .ref R, rfl, .int r, rfl, R, rs, r, rfl, g.r, zz, nf, by omega, fun H2 p ys cs2 rs2 ch np ep pa2 eR2 run2 nf2 => ?_⟩
      have eC2 : H2 C = some (.lst xs) := ch _ _ nCR g.c
      have npC : p ≠ C := fun z => by rw [z, g.c] at np; cases np
      have npR : p ≠ R := fun z => by rw [z, g.r] at np; cases np
      have sm2 : Same H H2 := fun b o e => ch b o (ne_of_none e nR0) (g.sm b o e)
      have run3 := stream hr2 run run2
      have hrl3 := run3.len
      have htl3 := tp_len (ns.take (i + 1))
      rw [List.length_take] at htl3
      have hxl := g.pa.length
      have hyl := pa2.length
      rw [List.length_append] at hrl3
      refine ⟨C, p, xs, ys, rfl, rfl, eC2, ep, Nat.le_of_lt (small3000 (by omega)), _, cs ++ cs2, rs2, _, rfl, ⟨same_again nC sm2, upd_same, ?_, by rw [upd_ne nCR.symm]; exact eR2⟩, run3, nf2⟩
      exact PairsAt.append (pairs_upd eC2 (ch_pairs ch g.r g.pa)) (pairs_upd eC2 pa2)
    · rintro σ Hx ⟨xs, cs, rs, r3, rfl, g, run, nf⟩
      have et2 : ns.take (ns.map V.int).length = ns := by rw [List.length_map]; exact List.take_length
      rw [et2] at run
      refine ⟨.ref C, rfl, .ref R, rfl, by show 2 ≤ sizeLine; decide, fun p np => ?_⟩
      have sp := same_new (o := .tup [.ref C, .ref R]) np
      exact hq _ p C R xs cs rs (g.sm.trans sp) (g.sm.free np) upd_same (sp _ _ g.c) (g.pa.same sp) (sp _ _ g.r) run nf
def spCo (K : PySem.W.Frag) : Sp := fun vs H Q _ => ∃ (a : Addr) (ns : List Int), vs = [.ref a] ∧ Sq K H a (ns.map V.int) ∧ ns.length ≤ 2500 ∧
  ∀ H' p c r xs cs rs, Same H H' → H p = none → H' p = some (.tup [.ref c, .ref r]) → H' c = some (.lst xs) → PairsAt H' xs cs → H' r = some (.lst (rs.map V.int)) → Run (tp ns) cs rs → NF rs → Q (.ref p) H'
theorem ok_Co {f fB : Addr} {fd fdB : FuncData} {k : Nat} (F : Fun K "_counted" "_counted" sCo f fd)
    (GB : FnOk P w K mg base CX0 (k + 3) fB fdB ["rest", "reading"] spPB) (gB : mg "put_behind" = some (.ref fB)) (kB : PySem.W.keepIn K (.ref fB) = true) (bB : Binds K fdB ["rest", "reading"] []) :
    FnOk P w K mg base CX0 (k + 4) f fd ["load"] (spCo K) :=
  (both (ok_Col F GB gB kB bB) (ok_Cot F GB gB kB bB)).imp fun vs H Q E ⟨a, ns, e, hs, hl, q⟩ => hs.elim (fun z => .inl ⟨a, ns, e, z, hl, q⟩) (fun z => .inr ⟨a, ns, e, z, hl, q⟩)
end
end QG

/-! counts -/
namespace QH
open PySem PySem.Spec PyProof.Rows L2 KA PH PM PA PB PC RM RN QE QF QG
abbrev sInit : Stmt := inClass sClass 0
abbrev sOf : Stmt := inClass sClass 1
abbrev sPC : Stmt := inClass sClass 4
abbrev sPR : Stmt := inClass sClass 5
abbrev sPH : Stmt := inClass sClass 6
theorem scInit : FnScope ["self", "cycles", "rest"] ["self", "cycles", "rest"] (defScope sInit) := ⟨rfl, rfl, rfl, by decide +kernel, rfl, by decide +kernel, by decide +kernel⟩
theorem scOf : FnScope ["cls", "load", "cycles", "rest"] ["cls", "load"] (defScope sOf) := ⟨rfl, rfl, rfl, by decide +kernel, rfl, by decide +kernel, by decide +kernel⟩
theorem scPC : FnScope ["self"] ["self"] (defScope sPC) := ⟨rfl, rfl, rfl, by decide +kernel, rfl, by decide +kernel, by decide +kernel⟩
theorem scPR : FnScope ["self"] ["self"] (defScope sPR) := ⟨rfl, rfl, rfl, by decide +kernel, rfl, by decide +kernel, by decide +kernel⟩
theorem scPH : FnScope ["self"] ["self"] (defScope sPH) := ⟨rfl, rfl, rfl, by decide +kernel, rfl, by decide +kernel, by decide +kernel⟩
/-! ### sorted pairs -/
/-- the pair at a ref -/
def kOf (H : Hp) : V → Int × Int
  | .ref p => match H p with
    | some (.tup [.int a, .int b]) => (a, b)
    | _ => (0, 0)
  | _ => (0, 0)
theorem kOf_at {H : Hp} {p : Addr} {r : Int × Int} (h : H p = some (.tup [.int r.1, .int r.2])) : kOf H (.ref p) = r := by
  show (match H p with | some (.tup [.int a, .int b]) => (a, b) | _ => (0, 0)) = r
  rw [h]
theorem pairs_key {H : Hp} : ∀ {xs : List V} {rs : List (Int × Int)}, PairsAt H xs rs → rs = xs.map (kOf H) ∧ ∀ x ∈ xs, ∃ t, x = V.ref t ∧ H t = some (.tup [.int (kOf H x).1, .int (kOf H x).2])
  | [], [], _ => ⟨rfl, fun _ z => (List.not_mem_nil z).elim⟩
  | x :: xs, r :: rs, ⟨⟨p, h1, h2⟩, h3⟩ => by
    obtain ⟨e, all⟩ := pairs_key h3
    subst h1
    have k := kOf_at h2
    refine ⟨by rw [List.map_cons, k, ← e], fun x hx => ?_⟩
    rcases List.mem_cons.mp hx with z | z
    · exact ⟨p, z, by rw [z, k]; exact h2⟩
    · exact all x z
  | [], _ :: _, h => h.elim
  | _ :: _, [], h => h.elim
theorem pairs_of {H : Hp} : ∀ {xs : List V}, (∀ x ∈ xs, ∃ t, x = V.ref t ∧ H t = some (.tup [.int (kOf H x).1, .int (kOf H x).2])) → PairsAt H xs (xs.map (kOf H))
  | [], _ => trivial
  | x :: xs, h => ⟨h x List.mem_cons_self, pairs_of fun y hy => h y (List.mem_cons_of_mem _ hy)⟩
theorem sorted_out {H : Hp} {xs ys : List V} {rs : List (Int × Int)} (pa : PairsAt H xs rs) (h1 : SrtO.Srtd (ltP (kOf H)) ys) (h2 : SrtO.Stb (ltP (kOf H)) ys xs) : ∃ ds, PairsAt H ys ds ∧ ds.Perm rs ∧ ds.Pairwise Le := by
  obtain ⟨e, all⟩ := pairs_key pa
  refine ⟨ys.map (kOf H), pairs_of fun y hy => all y (h2.perm.mem_iff.mp hy), by rw [e]; exact h2.perm.map _, ?_⟩
  rw [List.pairwise_map]
  refine h1.imp fun {x y} h => ?_
  have := SrtO.lexB_no.mp h
  show (kOf H x).1 < (kOf H y).1 ∨ ((kOf H x).1 = (kOf H y).1 ∧ (kOf H x).2 ≤ (kOf H y).2)
  omega
/-- cls(..), cls a parameter that holds a class -/
theorem pe_makeL {X : Cx} {CX : CXT} {k i : Nat} {C f : Addr} {fd : FuncData} {ps : List Str} {sp : Sp} {dvs : List V} {ds : List Value} {E : XK} {x : Str} {p pos : Pos} {e : Expr} {es : List Expr} {t : TA}
    (M : Mk X.K C f) (F : FnOk X.prog X.w X.K X.mg X.base CX k f fd ps sp) (hr : Room (k + 1) X.A) (hN : X.N[i]? = some x) (hv : Vis X.env.scope x) (hb : Binds X.K fd ps ds) (hd : Vals dvs ds) (hx : Passes CX X E) (ha : PA X (e :: es) t)
    (hdb : (x == ("__debug__" : Str)) = false := by decide) (hcd : (x == ("__classdict__" : Str)) = false := by decide)
    (he : starEach (e :: es) X.env = (false, eval e X.env) :: starEach es X.env := by rfl) (hpl : (backTo pos (starEach es X.env)).any (·.1) = false := by rfl) :
    PE X (.Call (.Name x p) (e :: es) [] pos) (fun σ H Q => σ[i]? = some (some (.ref C)) ∧ tMake C sp dvs E t σ H Q) := by
  refine ⟨fun pins s σ H Q I ⟨hs, ht⟩ => ?_⟩
  refine wpAny_Call_Name_kw (thn ((pe_var (pos := p) hN hv hdb hcd).run pins s σ H (fun v H1 => v = .ref C ∧ H1 = H) I ⟨.ref C, hs, rfl, rfl⟩) fun u s1 ⟨v, H1, I1, r1, e1, e2⟩ => ?_)
  subst e1 e2
  cases r1
  exact PySem.W.callWith_K (h₀ := X.base) I.ok.mod.kin M.kp (thn (ha.run pos pins s1 σ _ _ I1 ht) fun us s2 ⟨vs, H2, I2, r, q⟩ => ⟨I2.kIn, run_make M F hr hb hd hx I2 r q⟩) he hpl
/-- a count stands at x -/
def CountAt (H : Hp) (C x : Addr) (ds : List (Int × Int)) (rs : List Int) : Prop := ∃ (dx t1 t2 : Addr) (ys : List V), H x = some (.ins C dx [("_cycles", .ref t1), ("_rest", .ref t2)]) ∧ H t1 = some (.tup ys) ∧ PairsAt H ys ds ∧ H t2 = some (.tup (rs.map V.int))
theorem CountAt.same {H H' : Hp} {C x : Addr} {ds : List (Int × Int)} {rs : List Int} (h : CountAt H C x ds rs) (s : Same H H') : CountAt H' C x ds rs := by
  obtain ⟨dx, t1, t2, ys, h1, h2, h3, h4⟩ := h
  exact ⟨dx, t1, t2, ys, s _ _ h1, s _ _ h2, h3.same s, s _ _ h4⟩
/-- what of the text the class has -/
structure Cnt (K : PySem.W.Frag) (C : Addr) : Prop where
  cl : Cls K C
  nC : NoAttr K C "_cycles"
  nR : NoAttr K C "_rest"
theorem pairs_ne {H H' : Hp} {x : Addr} (k : ∀ b o, b ≠ x → H b = some o → H' b = some o) (hx : ∀ o, H x = some o → ∃ C d fs, o = .ins C d fs) : ∀ {xs : List V} {rs : List (Int × Int)}, PairsAt H xs rs → PairsAt H' xs rs
  | [], [], _ => trivial
  | y :: xs, r :: rs, ⟨⟨p, h1, h2⟩, h3⟩ => ⟨⟨p, h1, k p _ (fun z => by
      subst z
      obtain ⟨C, d, fs, e⟩ := hx _ h2
      cases e) h2⟩, pairs_ne k hx h3⟩
  | [], _ :: _, h => h.elim
  | _ :: _, [], h => h.elim
section
variable {P : Program} {w : World} {K : PySem.W.Frag} {mg : Str → Option Value} {base : Heap} {C : Addr}
def spInit (K : PySem.W.Frag) (C : Addr) : Sp := fun vs H Q _ => ∃ (x c r dx : Addr) (xs : List V) (cs : List (Int × Int)) (rs : List Int), vs = [.ref x, .ref c, .ref r] ∧ H x = some (.ins C dx []) ∧ H c = some (.lst xs) ∧ PairsAt H xs cs ∧ H r = some (.lst (rs.map V.int)) ∧
  ∀ H' ds, (∀ b o, b ≠ x → H b = some o → H' b = some o) → CountAt H' C x ds rs → ds.Perm cs → ds.Pairwise Le → Q .non H'
theorem ok_init {f : Addr} {fd : FuncData} {k : Nat} (F : Fun K "__init__" "Count.__init__" sInit f fd) (T : Cnt K C) (ms : mg "sorted" = none) (mt : mg "tuple" = none) : FnOk P w K mg base CX0 (k + 1) f fd ["self", "cycles", "rest"] (spInit K C) := by
  refine F.ok scInit (fun vs H Q E h => ?_) (fun cdv A outer s H vs Q E hr h => ?_)
  · obtain ⟨x, c, r, dx, xs, cs, rs, rfl, _⟩ := h
    rfl
  · obtain ⟨x, c, r, dx, xs, cs, rs, rfl, hx, hc, pa, hrr, hq⟩ := h
    refine ⟨_, pss_cons (ps_fld (pv 0) (pe_callTy call_tuple_of (by rfl) mt (by decide +kernel) (pa_cons (pe_callB cr_sortedPO (by rfl) ms (by decide +kernel) (pa_cons (pv 1) pa_nil)) pa_nil)) rfl)
      (pss_one (ps_fld (pv 0) (pe_callTy call_tuple_of (by rfl) mt (by decide +kernel) (pa_cons (pv 2) pa_nil)) rfl)), ?_⟩
    refine ⟨.ref c, rfl, c, xs, kOf H, rfl, SqL.of hc, (pairs_key pa).2, fun ys p h1 h2 np => ?_⟩
    obtain ⟨ds, pd, perm, srt⟩ := sorted_out pa h1 h2
    refine ⟨p, ys, rfl, .inl ⟨SqL.of upd_same, fun t1 nt1 => ?_⟩⟩
    have s1 : Same H (upd (upd H p (.lst ys)) t1 (.tup ys)) := (same_new np).trans (same_new nt1)
    have g1 := upd_same (H := upd H p (.lst ys)) (a := t1) (o := .tup ys)
    generalize upd (upd H p (.lst ys)) t1 (.tup ys) = H1 at s1 g1 ⊢
    have hx1 := s1 _ _ hx
    refine ⟨.ref x, rfl, x, C, dx, [], rfl, hx1, T.cl, T.nC, by decide, ?_⟩
    have nrx : r ≠ x := fun z => by rw [z, hx] at hrr; cases hrr
    have nt1x : t1 ≠ x := fun z => by rw [z, hx1] at g1; cases g1
    have hr1 : (upd H1 x (.ins C dx (putF "_cycles" (.ref t1) []))) r = some (.lst (rs.map V.int)) := by rw [upd_ne nrx]; exact s1 _ _ hrr
    refine ⟨.ref r, rfl, r, _, rfl, .inl ⟨SqL.of hr1, fun t2 nt2 => ?_⟩⟩
    have nt2x : t2 ≠ x := fun z => by rw [z, upd_same] at nt2; cases nt2
    have hx2 : (upd (upd H1 x (.ins C dx (putF "_cycles" (.ref t1) []))) t2 (.tup (rs.map V.int))) x = some (.ins C dx [("_cycles", .ref t1)]) := by rw [upd_ne nt2x.symm, upd_same]; rfl
    have n12 : t1 ≠ t2 := fun z => by rw [← z, upd_ne nt1x, g1] at nt2; cases nt2
    refine ⟨.ref x, rfl, x, C, dx, [("_cycles", .ref t1)], rfl, hx2, T.cl, T.nR, by show 1 < 1000; decide, ?_⟩
    have keep : ∀ b o, b ≠ x → H b = some o → (upd (upd (upd H1 x (.ins C dx (putF "_cycles" (.ref t1) []))) t2 (.tup (rs.map V.int))) x (.ins C dx (putF "_rest" (.ref t2) [("_cycles", .ref t1)]))) b = some o := fun b o nb e => by
      have e1 := s1 _ _ e
      have nb2 : b ≠ t2 := fun z => by rw [← z, upd_ne nb, e1] at nt2; cases nt2
      rw [upd_ne nb, upd_ne nb2, upd_ne nb]
      exact e1
    refine hq _ ds keep ⟨dx, t1, t2, ys, ?_, ?_, pairs_ne keep (fun o e => by rw [hx] at e; cases e; exact ⟨_, _, _, rfl⟩) pd, ?_⟩ perm srt
    · rw [upd_same]
      rfl
    · rw [upd_ne nt1x, upd_ne n12, upd_ne nt1x]
      exact g1
    · rw [upd_ne nt2x, upd_same]
def spOf (K : PySem.W.Frag) (C : Addr) : Sp := fun vs H Q _ => ∃ (a : Addr) (ns : List Int), vs = [.ref C, .ref a] ∧ Sq K H a (ns.map V.int) ∧ ns.length ≤ 2500 ∧
  ∀ H' x cs ds rs, Same H H' → H x = none → CountAt H' C x ds rs → Run (tp ns) cs rs → NF rs → ds.Perm cs → ds.Pairwise Le → Q (.ref x) H'
theorem ok_of {f fI fO : Addr} {fd fdI fdO : FuncData} {k : Nat} (F : Fun K "of" "Count.of" sOf f fd) (M : Mk K C fI)
    (GI : FnOk P w K mg base CX0 (k + 2) fI fdI ["self", "cycles", "rest"] (spInit K C)) (bI : Binds K fdI ["self", "cycles", "rest"] [])
    (GO : FnOk P w K mg base CX0 (k + 3) fO fdO ["load"] (spCo K)) (gO : mg "_counted" = some (.ref fO)) (kO : PySem.W.keepIn K (.ref fO) = true) (bO : Binds K fdO ["load"] []) : FnOk P w K mg base CX0 (k + 4) f fd ["cls", "load"] (spOf K C) := by
  refine F.ok scOf (fun vs H Q E h => ?_) (fun cdv A outer s H vs Q E hr h => ?_)
  · obtain ⟨a, ns, rfl, _⟩ := h
    rfl
  · obtain ⟨a, ns, rfl, hS, hlen, hq⟩ := h
    refine ⟨_, pss_cons (ps_asg (pe_call GO hr (by rfl) gO kO bO .nil pass0 (pa_cons (pv 1) pa_nil)) (pg_tup rfl (pgs_cons (pg_name (i := 2) scOf.nd rfl (.inl rfl)) (pgs_cons (pg_name (i := 3) scOf.nd rfl (.inl rfl)) pgs_nil))))
      (pss_one (ps_ret (pe_makeL (i := 0) M GI hr rfl (.inl rfl) bI .nil pass0 (pa_cons (pv 2) (pa_cons (pv 3) pa_nil))))), ?_⟩
    refine ⟨.ref a, rfl, a, ns, rfl, hS, hlen, fun H1 p c r xs cs rs s1 np ep ec pa er run nf => ?_⟩
    refine ⟨p, _, rfl, SqT.of ep, rfl, .ref c, [.ref r], rfl, .ref r, [], rfl, rfl, rfl, .ref c, rfl, .ref r, rfl, fun x dx nx ndx ne => ?_⟩
    have s2 : Same H1 (upd (upd H1 dx (.own x)) x (.ins C dx [])) := (same_new ndx).trans (same_new (by rw [upd_ne ne.symm]; exact nx))
    refine ⟨x, c, r, dx, xs, cs, rs, rfl, upd_same, s2 _ _ ec, pa.same s2, s2 _ _ er, fun H' ds keep ca perm srt => ⟨rfl, ?_⟩⟩
    have s3 : Same H1 H' := fun b o e => keep b o (ne_of_none e nx) (s2 _ _ e)
    exact hq H' x cs ds rs (s1.trans s3) (s1.free nx) ca run nf perm srt
def spPC (C : Addr) : Sp := fun vs H Q _ => ∃ (x : Addr) (ds : List (Int × Int)) (rs : List Int), vs = [.ref x] ∧ CountAt H C x ds rs ∧ ∀ t ys, H t = some (.tup ys) → PairsAt H ys ds → Q (.ref t) H
def spPR (C : Addr) : Sp := fun vs H Q _ => ∃ (x : Addr) (ds : List (Int × Int)) (rs : List Int), vs = [.ref x] ∧ CountAt H C x ds rs ∧ ∀ t, H t = some (.tup (rs.map V.int)) → Q (.ref t) H
theorem ok_PC {f : Addr} {fd : FuncData} {k : Nat} (F : Fun K "cycles" "Count.cycles" sPC f fd) (T : Cnt K C) : FnOk P w K mg base CX0 (k + 1) f fd ["self"] (spPC C) := by
  refine F.ok scPC (fun vs H Q E h => ?_) (fun cdv A outer s H vs Q E hr h => ?_)
  · obtain ⟨x, ds, rs, rfl, _⟩ := h
    rfl
  · obtain ⟨x, ds, rs, rfl, ⟨dx, t1, t2, ys, h1, h2, h3, h4⟩, hq⟩ := h
    refine ⟨_, pss_one (ps_ret (pe_fld (pv 0) rfl)), ?_⟩
    exact ⟨.ref x, rfl, x, C, dx, _, .ref t1, rfl, h1, T.cl, T.nC, rfl, hq t1 ys h2 h3⟩
theorem ok_PR {f : Addr} {fd : FuncData} {k : Nat} (F : Fun K "rest" "Count.rest" sPR f fd) (T : Cnt K C) : FnOk P w K mg base CX0 (k + 1) f fd ["self"] (spPR C) := by
  refine F.ok scPR (fun vs H Q E h => ?_) (fun cdv A outer s H vs Q E hr h => ?_)
  · obtain ⟨x, ds, rs, rfl, _⟩ := h
    rfl
  · obtain ⟨x, ds, rs, rfl, ⟨dx, t1, t2, ys, h1, h2, h3, h4⟩, hq⟩ := h
    refine ⟨_, pss_one (ps_ret (pe_fld (pv 0) rfl)), ?_⟩
    exact ⟨.ref x, rfl, x, C, dx, _, .ref t2, rfl, h1, T.cl, T.nR, rfl, hq t2 h4⟩
def spPH (C : Addr) : Sp := fun vs H Q _ => ∃ (x : Addr) (ds : List (Int × Int)) (rs : List Int), vs = [.ref x] ∧ CountAt H C x ds rs ∧ ds.length ≤ 2500 ∧ rs.length ≤ 2500 ∧ ZZ rs ∧ ∀ H' t ys es, Same H H' → H' t = some (.tup ys) → PairsAt H' ys es → es.Perm (ds ++ ds ++ sw rs) → es.Pairwise Le → Q (.ref t) H'
theorem ok_PH {f fS : Addr} {fd fdS : FuncData} {k : Nat} (F : Fun K "half_cycles" "Count.half_cycles" sPH f fd) (T : Cnt K C) (GS : FnOk P w K mg base CX0 (k + 3) fS fdS ["load"] (spSw K)) (gS : mg "swings" = some (.ref fS)) (kS : PySem.W.keepIn K (.ref fS) = true) (bS : Binds K fdS ["load"] [])
    (ms : mg "sorted" = none) (mt : mg "tuple" = none) : FnOk P w K mg base CX0 (k + 4) f fd ["self"] (spPH C) := by
  refine F.ok scPH (fun vs H Q E h => ?_) (fun cdv A outer s H vs Q E hr h => ?_)
  · obtain ⟨x, ds, rs, rfl, _⟩ := h
    rfl
  · obtain ⟨x, ds, rs, rfl, ⟨dx, t1, t2, ys, h1, h2, h3, h4⟩, ld, lr, zz, hq⟩ := h
    refine ⟨_, pss_one (ps_ret (pe_callTy call_tuple_of (by rfl) mt (by decide +kernel) (pa_cons (pe_callB cr_sortedPO (by rfl) ms (by decide +kernel) (pa_cons (pe_lst (StX.pa_star (pe_fld (pv 0) rfl) (StX.pa_star (pe_fld (pv 0) rfl) (StX.pa_star (pe_call GS hr (by rfl) gS kS bS .nil pass0 (pa_cons (pe_fld (pv 0) rfl) pa_nil)) pa_nil)))) pa_nil)) pa_nil))), ?_⟩
    refine ⟨.ref x, rfl, x, C, dx, _, .ref t1, rfl, h1, T.cl, T.nC, rfl, t1, ys, rfl, .inl (SqT.of h2), .ref x, rfl, x, C, dx, _, .ref t1, rfl, h1, T.cl, T.nC, rfl, t1, ys, rfl, .inl (SqT.of h2), .ref x, rfl, x, C, dx, _, .ref t2, rfl, h1, T.cl, T.nR, rfl, t2, rs, rfl, .inr (SqT.of h4), lr, fun H1 p xs s1 np ep pa => ?_⟩
    rw [zz_tp zz] at pa
    have pall : PairsAt H1 (ys ++ (ys ++ (xs ++ []))) (ds ++ ds ++ sw rs) := by
      rw [List.append_nil, List.append_assoc]
      exact (h3.same s1).append ((h3.same s1).append pa)
    refine ⟨p, xs, rfl, .inr (SqL.of ep), ?_, fun l nl => ?_⟩
    · rw [pall.length]
      simp only [List.length_append, sw_len]
      exact Nat.le_trans (show ds.length + ds.length + (rs.length - 1) ≤ 10000 by omega) (by decide)
    have s2 := same_new (o := .lst (ys ++ (ys ++ (xs ++ [])))) nl
    have pl := pall.same s2
    refine ⟨l, _, kOf _, rfl, SqL.of upd_same, (pairs_key pl).2, fun zs q g1 g2 nq => ?_⟩
    obtain ⟨es, pe, perm, srt⟩ := sorted_out pl g1 g2
    refine ⟨q, zs, rfl, .inl ⟨SqL.of upd_same, fun t nt => ?_⟩⟩
    have s3 := (same_new (o := .lst zs) nq).trans (same_new (o := .tup zs) nt)
    exact hq _ t zs es (s1.trans (s2.trans s3)) upd_same (pe.same s3) perm srt
end
end QH

/-! lists in ascending order -/
namespace BO
open PySem PySem.Spec PyProof.Rows L2 KA PH PM PA PB PC RM RN RS QE QF QG QH
abbrev sPI : Stmt := topS 18
abbrev sPT : Stmt := topS 19
theorem scPI : FnScope ["row", "value", "start", "end", "middle"] ["row", "value"] (defScope sPI) := ⟨rfl, rfl, rfl, by decide +kernel, rfl, by decide +kernel, by decide +kernel⟩
theorem scPT : FnScope ["row", "value"] ["row", "value"] (defScope sPT) := ⟨rfl, rfl, rfl, by decide +kernel, rfl, by decide +kernel, by decide +kernel⟩
abbrev Lt (r s : Int × Int) : Prop := r.1 < s.1 ∨ (r.1 = s.1 ∧ r.2 < s.2)
theorem lex_iff (r s : Int × Int) : HT.lexLt [r.1, r.2] [s.1, s.2] = decide (Lt r s) := by
  by_cases h : r.1 = s.1
  · by_cases g : r.2 = s.2
    · have : ¬ Lt r s := by simp only [Lt]; omega
      rw [decide_eq_false this]
      simp [HT.lexLt, h, g]
    · have : decide (Lt r s) = decide (r.2 < s.2) := by rw [decide_eq_decide]; simp only [Lt]; omega
      rw [this]
      simp [HT.lexLt, h, g]
  · have : decide (Lt r s) = decide (r.1 < s.1) := by rw [decide_eq_decide]; simp only [Lt]; omega
    rw [this]
    simp [HT.lexLt, h]
theorem nlt_le {r s : Int × Int} : ¬ Lt r s ↔ Le s r := by simp only [Lt, Le]; omega
theorem le_trans {r s t : Int × Int} (h : Le r s) (g : Le s t) : Le r t := by simp only [Le] at *; omega
theorem lt_le {r s : Int × Int} (h : Lt r s) : Le r s := by simp only [Lt, Le] at *; omega
theorem le_lt {r s t : Int × Int} (h : Le r s) (g : Lt s t) : Lt r t := by simp only [Lt, Le] at *; omega
/-- the place of c in a row -/
def PlaceOf (rs : List (Int × Int)) (c : Int × Int) (i : Nat) : Prop := i ≤ rs.length ∧ (∀ j r, j < i → rs[j]? = some r → Lt r c) ∧ ∀ j r, i ≤ j → rs[j]? = some r → Le c r
theorem place_sorted {rs : List (Int × Int)} {c : Int × Int} {i : Nat} (srt : rs.Pairwise Le) (h : PlaceOf rs c i) : (rs.take i ++ [c] ++ rs.drop i).Pairwise Le := by
  obtain ⟨h0, h1, h2⟩ := h
  have e : rs = rs.take i ++ rs.drop i := (List.take_append_drop i rs).symm
  have s2 := srt
  rw [e] at s2
  obtain ⟨p1, p2, p3⟩ := List.pairwise_append.mp s2
  refine List.pairwise_append.mpr ⟨List.pairwise_append.mpr ⟨p1, List.pairwise_singleton _ _, fun a ha b hb => ?_⟩, p2, fun a ha b hb => ?_⟩
  · rw [List.mem_singleton.mp hb]
    obtain ⟨j, hj, rfl⟩ := List.mem_iff_getElem.mp ha
    rw [List.length_take] at hj
    refine lt_le (h1 j _ (by omega) ?_)
    rw [List.getElem_take]
    exact List.getElem?_eq_getElem _
  · rcases List.mem_append.mp ha with z | z
    · exact p3 a z b hb
    · rw [List.mem_singleton.mp z]
      obtain ⟨j, hj, rfl⟩ := List.mem_iff_getElem.mp hb
      rw [List.length_drop] at hj
      refine h2 (i + j) _ (by omega) ?_
      rw [List.getElem_drop]
      exact List.getElem?_eq_getElem _
theorem pairs_ins {H : Hp} {v : Addr} {c : Int × Int} (hv : H v = some (.tup [.int c.1, .int c.2])) {xs : List V} {rs : List (Int × Int)} (h : PairsAt H xs rs) (i : Nat) : PairsAt H (xs.take i ++ [.ref v] ++ xs.drop i) (rs.take i ++ [c] ++ rs.drop i) := by
  have t : ∀ (i : Nat) {xs : List V} {rs : List (Int × Int)}, PairsAt H xs rs → PairsAt H (xs.take i) (rs.take i) ∧ PairsAt H (xs.drop i) (rs.drop i) := by
    intro i
    induction i with
    | zero => intro xs rs h; exact ⟨trivial, h⟩
    | succ i ih =>
      intro xs rs h
      cases xs with
      | nil => cases rs with
        | nil => exact ⟨trivial, trivial⟩
        | cons _ _ => exact h.elim
      | cons x xs => cases rs with
        | nil => exact h.elim
        | cons r rs =>
          obtain ⟨a, b⟩ := ih h.2
          exact ⟨⟨h.1, a⟩, b⟩
  obtain ⟨a, b⟩ := t i h
  exact (a.append (show PairsAt H [.ref v] [c] from ⟨⟨v, rfl, hv⟩, trivial⟩)).append b
theorem perm_ins {α : Type} (xs : List α) (c : α) (i : Nat) : (xs.take i ++ [c] ++ xs.drop i).Perm (c :: xs) := by
  have h : (xs.take i ++ [c] ++ xs.drop i).Perm ([c] ++ xs.take i ++ xs.drop i) := List.Perm.append_right _ List.perm_append_comm
  refine h.trans ?_
  rw [List.append_assoc, List.take_append_drop]
  exact List.Perm.refl _
theorem pair_get {H : Hp} {xs : List V} {rs : List (Int × Int)} (h : PairsAt H xs rs) {i : Nat} {r : Int × Int} (hr : rs[i]? = some r) : ∃ p, xs[i]? = some (.ref p) ∧ H p = some (.tup [.int r.1, .int r.2]) := by
  induction xs generalizing rs i with
  | nil => cases rs with
    | nil => cases hr
    | cons _ _ => exact h.elim
  | cons y xs ih =>
    cases rs with
    | nil => exact h.elim
    | cons q rs =>
      obtain ⟨⟨p, e, hp⟩, h2⟩ := h
      cases i with
      | zero =>
        have : q = r := Option.some.inj hr
        subst this
        exact ⟨p, by rw [← e]; rfl, hp⟩
      | succ i => exact ih h2 hr
section
variable {P : Program} {w : World} {K : PySem.W.Frag} {mg : Str → Option Value} {base : Heap}
def spPI : Sp := fun vs H Q _ => ∃ (row v : Addr) (xs : List V) (rs : List (Int × Int)) (c : Int × Int), vs = [.ref row, .ref v] ∧ H row = some (.lst xs) ∧ PairsAt H xs rs ∧ rs.Pairwise Le ∧ H v = some (.tup [.int c.1, .int c.2]) ∧ rs.length ≤ 2500 ∧ ∀ i : Nat, PlaceOf rs c i → Q (.int i) H
theorem ok_PI {f : Addr} {fd : FuncData} {k : Nat} (F : Fun K "place_in" "place_in" sPI f fd) (ml : mg "len" = none) : FnOk P w K mg base CX0 (k + 1) f fd ["row", "value"] spPI := by
  refine F.ok scPI (fun vs H Q E h => ?_) (fun cdv A outer s H vs Q E hr h => ?_)
  · obtain ⟨row, v, xs, rs, c, rfl, _⟩ := h
    rfl
  · obtain ⟨row, v, xs, rs, c, rfl, hx, pa, srt, hv, hl, hq⟩ := h
    have hu : (A.deeper (envOfC "place_in" (defScope sPI) s.heap.objs.size f cdv)).units < cLine := by have := hr.un; omega
    refine ⟨_, pss_cons (ps_par (i := 2) (j := 3) (by rfl) scPI.nd rfl rfl (by decide) rfl rfl (pa_cons pe_int (pa_cons (pe_callB call_len_seq (by rfl) ml PySem.boot_len (pa_cons (pv 0) pa_nil)) pa_nil)) (by rfl))
      (pss_cons (ps_while PassesOwn.never (pt_cmpR op_lt (pv 2) (pv 3) (nomark _))
        (pss_cons (ps_set (i := 4) scPI.nd rfl (.inl rfl) (pe_op op_fdiv (pe_op op_add (pv 2) (pv 3)) pe_int))
        (pss_one (ps_if (pt_cmpR (op_ltT hu) (pe_ix ix_list (pv 0) (pv 4) (fun _ _ => rfl)) (pv 1) (nomark _)) (pss_one (ps_set (i := 2) scPI.nd rfl (.inl rfl) (pe_op op_add (pv 4) pe_int))) (pss_one (ps_set (i := 3) scPI.nd rfl (.inl rfl) (pv 4)))))))
      (pss_one (ps_ret (pv 2)))), ?_⟩
    have xl := pa.length
    refine ⟨.ref row, rfl, row, xs, rfl, .inl (SqL.of hx), .int 0, .int xs.length, rfl, ?_⟩
    refine ⟨fun n σ Hx => Hx = H ∧ ∃ (st en : Nat) (r4 : Option V), n = en - st ∧ st ≤ en ∧ en ≤ rs.length ∧ σ = [some (.ref row), some (.ref v), some (.int st), some (.int en), r4] ∧ (∀ j r, j < st → rs[j]? = some r → Lt r c) ∧ ∀ j r, en ≤ j → rs[j]? = some r → Le c r,
      ⟨_, rfl, 0, rs.length, _, rfl, Nat.zero_le _, Nat.le_refl _, by rw [xl]; rfl, fun j r h => absurd h (Nat.not_lt_zero _), fun j r h e => by
        have := (List.getElem?_eq_some_iff.mp e).1
        omega⟩, ?_⟩
    rintro n σ Hx ⟨rfl, st, en, r4, rfl, h1, h2, rfl, h3, h4⟩
    refine ⟨.int st, rfl, .int en, rfl, st, en, rfl, rfl, _, rfl, ?_⟩
    by_cases lt : st < en
    · rw [decide_eq_true (show (st : Int) < (en : Int) by omega)]
      refine iteT ?_
      refine ⟨fun σ Hy => ∃ m', m' < en - st ∧ Hy = Hx ∧ ∃ (st en : Nat) (r4 : Option V), m' = en - st ∧ st ≤ en ∧ en ≤ rs.length ∧ σ = [some (.ref row), some (.ref v), some (.int st), some (.int en), r4] ∧ (∀ j r, j < st → rs[j]? = some r → Lt r c) ∧ ∀ j r, en ≤ j → rs[j]? = some r → Le c r, fun _ _ z => z, ?_⟩
      have em : ((st : Int) + (en : Int)) / 2 = (((st + en) / 2 : Nat) : Int) := by omega
      refine ⟨.int st, rfl, .int en, rfl, st, en, rfl, rfl, _, 2, rfl, rfl, ⟨by decide, by decide⟩, ?_⟩
      show gName 4 (V.int (((st : Int) + (en : Int)) / 2)) _ _ _
      rw [em]
      generalize hmid : (st + en) / 2 = mid
      have b1 : st ≤ mid ∧ mid < en := by omega
      obtain ⟨r, hr2⟩ : ∃ r, rs[mid]? = some r := ⟨_, List.getElem?_eq_getElem (by omega)⟩
      obtain ⟨p, hp1, hp2⟩ := pair_get pa hr2
      refine ⟨.ref row, rfl, .int mid, rfl, row, xs, mid, .ref p, rfl, rfl, SqL.of hx, atI_nat hp1, .ref v, rfl, p, v, [r.1, r.2], [c.1, c.2], rfl, rfl, SqT.of hp2, SqT.of hv, _, rfl, ?_⟩
      rw [lex_iff]
      by_cases l : Lt r c
      · rw [decide_eq_true l]
        refine iteT ⟨.int mid, rfl, mid, 1, rfl, rfl, en - (mid + 1), by omega, rfl, mid + 1, en, _, rfl, by omega, h2, rfl, fun j q hj e => ?_, h4⟩
        rcases Nat.lt_or_ge j mid with z | z
        · have hle : Le q r := by
            have := List.pairwise_iff_getElem.mp srt
            obtain ⟨q1, q2⟩ := List.getElem?_eq_some_iff.mp e
            obtain ⟨q3, q4⟩ := List.getElem?_eq_some_iff.mp hr2
            have := this j mid q1 q3 z
            rw [q2, q4] at this
            exact this
          exact le_lt hle l
        · have : j = mid := by omega
          subst this
          rw [hr2] at e
          rw [← Option.some.inj e]
          exact l
      · rw [decide_eq_false l]
        refine iteF ⟨.int mid, rfl, mid - st, by omega, rfl, st, mid, _, rfl, b1.1, by omega, rfl, h3, fun j q hj e => ?_⟩
        have l2 := nlt_le.mp l
        rcases Nat.lt_or_ge mid j with z | z
        · have hle : Le r q := by
            have := List.pairwise_iff_getElem.mp srt
            obtain ⟨q1, q2⟩ := List.getElem?_eq_some_iff.mp e
            obtain ⟨q3, q4⟩ := List.getElem?_eq_some_iff.mp hr2
            have := this mid j q3 q1 z
            rw [q2, q4] at this
            exact this
          exact le_trans l2 hle
        · have : j = mid := by omega
          subst this
          rw [hr2] at e
          rw [← Option.some.inj e]
          exact l2
    · rw [decide_eq_false (show ¬ (st : Int) < (en : Int) by omega)]
      refine iteF ?_
      have : st = en := by omega
      subst this
      exact ⟨.int st, rfl, hq st ⟨h2, h3, h4⟩⟩
def spPT : Sp := fun vs H Q _ => ∃ (row v : Addr) (xs : List V) (rs : List (Int × Int)) (c : Int × Int), vs = [.ref row, .ref v] ∧ H row = some (.lst xs) ∧ PairsAt H xs rs ∧ rs.Pairwise Le ∧ H v = some (.tup [.int c.1, .int c.2]) ∧ rs.length ≤ 2500 ∧
  ∀ xs' rs', PairsAt H xs' rs' → rs'.Perm (c :: rs) → rs'.Pairwise Le → Q .non (upd H row (.lst xs'))
theorem ok_PT {f fI : Addr} {fd dI : FuncData} {k : Nat} (F : Fun K "put_in" "put_in" sPT f fd) (GI : FnOk P w K mg base CX0 k fI dI ["row", "value"] spPI) (gI : mg "place_in" = some (.ref fI)) (kI : PySem.W.keepIn K (.ref fI) = true) (bI : Binds K dI ["row", "value"] []) :
    FnOk P w K mg base CX0 (k + 1) f fd ["row", "value"] spPT := by
  refine F.ok scPT (fun vs H Q E h => ?_) (fun cdv A outer s H vs Q E hr h => ?_)
  · obtain ⟨row, v, xs, rs, c, rfl, _⟩ := h
    rfl
  · obtain ⟨row, v, xs, rs, c, rfl, hx, pa, srt, hv, hl, hq⟩ := h
    refine ⟨_, pss_one (ps_expr (pe_bm PySem.F.plainAttrs_list PySem.F.slot_list_insert PySem.F.type_list_insert mt_insert (pv 0) (pa_cons (pe_call GI hr (by rfl) gI kI bI .nil pass0 (pa_cons (pv 0) (pa_cons (pv 1) pa_nil))) (pa_cons (pv 1) pa_nil)))), ?_⟩
    have xl := pa.length
    refine ⟨.ref row, rfl, .inl ⟨rfl, _, SqL.of hx⟩, .ref row, rfl, .ref v, rfl, row, v, xs, rs, c, rfl, hx, pa, srt, hv, hl, fun i pl => ?_⟩
    refine ⟨.ref v, rfl, row, xs, i, .ref v, rfl, rfl, hx, Nat.lt_of_le_of_lt (show xs.length ≤ 2500 by omega) (by decide), by omega, by have := pl.1; omega, ?_⟩
    exact hq _ _ (pairs_ins hv pa i) (perm_ins rs c i) (place_sorted srt pl)
end
end BO

/-! changes of a load, as mathematics -/
namespace KM
/-- how often a letter differs from the one before, the first of all being a -/
def cf : Bool → List Bool → Nat
  | _, [] => 0
  | a, b :: r => (if a = b then 0 else 1) + cf b r
def cnt : List Bool → Nat
  | [] => 0
  | a :: r => cf a r
def cfO : Option Bool → List Bool → Nat
  | none, l => cnt l
  | some a, l => cf a l
/-- the letter of a reading: true for L -/
def lett (lo hi : Int) (r : Int) : Option Bool := if r ≤ lo then some true else if hi ≤ r then some false else none
def lets (lo hi : Int) (ns : List Int) : List Bool := ns.filterMap (lett lo hi)
def chg (ns : List Int) (lo hi : Int) : Nat := cnt (lets lo hi ns)
theorem cf_tri (a b : Bool) : ∀ l : List Bool, cf a l ≤ (if a = b then 0 else 1) + cf b l
  | [] => Nat.zero_le _
  | c :: r => by
    simp only [cf]
    cases a <;> cases b <;> cases c <;> simp <;> omega
theorem cf_mono : ∀ {l m : List Bool}, l.Sublist m → ∀ a, cf a l ≤ cf a m := by
  intro l m h
  induction h with
  | slnil => intro a; exact Nat.le_refl _
  | @cons l m b h ih =>
    intro a
    have h1 := cf_tri a b l
    have h2 := ih b
    simp only [cf]
    omega
  | @cons_cons l m b h ih =>
    intro a
    have h2 := ih b
    simp only [cf]
    omega
theorem cnt_mono : ∀ {l m : List Bool}, l.Sublist m → cnt l ≤ cnt m := by
  intro l m h
  induction h with
  | slnil => exact Nat.le_refl _
  | @cons l m b h ih =>
    cases m with
    | nil =>
      cases h
      exact Nat.le_refl _
    | cons d r =>
      show cnt l ≤ (if b = d then 0 else 1) + cf d r
      have : cnt (d :: r) = cf d r := rfl
      omega
  | @cons_cons l m b h ih => exact cf_mono h b
theorem lets_sub {lo hi lo2 hi2 : Int} (h1 : lo ≤ lo2) (h2 : hi2 ≤ hi) (h3 : lo2 < hi2) : ∀ ns : List Int, (lets lo hi ns).Sublist (lets lo2 hi2 ns)
  | [] => .slnil
  | r :: t => by
    have ih := lets_sub h1 h2 h3 t
    have key : lett lo hi r = none ∨ lett lo hi r = lett lo2 hi2 r := by
      unfold lett
      by_cases a : r ≤ lo
      · right
        rw [if_pos a, if_pos (by omega)]
      · rw [if_neg a]
        by_cases b : hi ≤ r
        · right
          rw [if_pos b, if_neg (by omega), if_pos (by omega)]
        · left
          rw [if_neg b]
    show ((r :: t).filterMap (lett lo hi)).Sublist ((r :: t).filterMap (lett lo2 hi2))
    rw [List.filterMap_cons, List.filterMap_cons]
    rcases key with e | e
    · rw [e]
      dsimp only
      cases lett lo2 hi2 r with
      | none => exact ih
      | some b => exact .cons _ ih
    · rw [← e]
      cases lett lo hi r with
      | none => exact ih
      | some b => exact .cons_cons _ ih
theorem chg_range {lo hi lo2 hi2 : Int} (h1 : lo ≤ lo2) (h2 : hi2 ≤ hi) (h3 : lo2 < hi2) (ns : List Int) : chg ns lo hi ≤ chg ns lo2 hi2 := cnt_mono (lets_sub h1 h2 h3 ns)
theorem chg_sub {l m : List Int} (h : l.Sublist m) (lo hi : Int) : chg l lo hi ≤ chg m lo hi := cnt_mono (h.filterMap _)
theorem chg_put (ns : List Int) (k : Nat) (v lo hi : Int) : chg ns lo hi ≤ chg (ns.take k ++ [v] ++ ns.drop k) lo hi := by
  refine chg_sub ?_ lo hi
  have e : ns = ns.take k ++ ns.drop k := (List.take_append_drop k ns).symm
  have h1 : (ns.take k).Sublist (ns.take k ++ [v]) := List.sublist_append_left _ _
  have h2 := h1.append (List.Sublist.refl (ns.drop k))
  rw [List.take_append_drop] at h2
  exact h2
theorem lets_drop {lo hi : Int} {ns : List Int} {i : Nat} {r : Int} (h : ns[i]? = some r) : lets lo hi (ns.drop i) = (match lett lo hi r with | none => lets lo hi (ns.drop (i + 1)) | some b => b :: lets lo hi (ns.drop (i + 1))) := by
  obtain ⟨h1, h2⟩ := List.getElem?_eq_some_iff.mp h
  rw [List.drop_eq_getElem_cons h1, h2]
  unfold lets
  rw [List.filterMap_cons]
  cases lett lo hi r <;> rfl
theorem lets_take {lo hi : Int} {ns : List Int} {i : Nat} {r : Int} (h : ns[i]? = some r) : lets lo hi (ns.take (i + 1)) = (match lett lo hi r with | none => lets lo hi (ns.take i) | some b => lets lo hi (ns.take i) ++ [b]) := by
  rw [List.take_add_one, h]
  unfold lets
  rw [List.filterMap_append]
  show _ ++ List.filterMap _ [r] = _
  rw [List.filterMap_cons]
  cases lett lo hi r with
  | none => simp
  | some b => rfl
theorem lets_len (lo hi : Int) (ns : List Int) : (lets lo hi ns).length ≤ ns.length := List.length_filterMap_le _ _
/-- the number of turns of a zip with itself, one on, whose two differ -/
theorem cnt_drop {l : List Bool} {i : Nat} {a b : Bool} (h1 : l[i]? = some a) (h2 : l[i + 1]? = some b) : cnt (l.drop i) = (if a = b then 0 else 1) + cnt (l.drop (i + 1)) := by
  obtain ⟨k1, e1⟩ := List.getElem?_eq_some_iff.mp h1
  obtain ⟨k2, e2⟩ := List.getElem?_eq_some_iff.mp h2
  rw [List.drop_eq_getElem_cons k1, e1, List.drop_eq_getElem_cons k2, e2]
  rfl
theorem cnt_end {l : List Bool} {i : Nat} (h : l.length ≤ i + 1) : cnt (l.drop i) = 0 := by
  have : (l.drop i).length ≤ 1 := by rw [List.length_drop]; omega
  match l.drop i, this with
  | [], _ => rfl
  | [_], _ => rfl
end KM

/-! changes decide the half-cycles, as mathematics -/
namespace RC
open KM PM RM RN
/-- a range holds another one -/
def hl (lo hi : Int) (r : Int × Int) : Bool := decide (r.1 ≤ lo) && decide (hi ≤ r.2)
def nh (lo hi : Int) (rs : List (Int × Int)) : Nat := rs.countP (hl lo hi)
def b1 (b : Bool) : Nat := if b = true then 1 else 0
theorem nh_cons (lo hi : Int) (r : Int × Int) (rs : List (Int × Int)) : nh lo hi (r :: rs) = b1 (hl lo hi r) + nh lo hi rs := by
  unfold nh b1
  rw [List.countP_cons]
  omega
theorem nh_app (lo hi : Int) (rs ss : List (Int × Int)) : nh lo hi (rs ++ ss) = nh lo hi rs + nh lo hi ss := List.countP_append
theorem nh_perm {lo hi : Int} {rs ss : List (Int × Int)} (h : rs.Perm ss) : nh lo hi rs = nh lo hi ss := h.countP_eq _
/-- a letter is read, some before -/
def cl (lo hi : Int) (o : Option Bool) (ns : List Int) : Nat := cfO o (lets lo hi ns)
def d2 (o : Option Bool) (b : Bool) : Nat := match o with
  | none => 0
  | some a => if a = b then 0 else 1
theorem cl_nil (lo hi : Int) (o : Option Bool) : cl lo hi o [] = 0 := by cases o <;> rfl
theorem cl_cons (lo hi : Int) (o : Option Bool) (x : Int) (ns : List Int) : cl lo hi o (x :: ns) = match lett lo hi x with
    | none => cl lo hi o ns
    | some b => d2 o b + cl lo hi (some b) ns := by
  unfold cl lets
  rw [List.filterMap_cons]
  cases lett lo hi x with
  | none => rfl
  | some b =>
    cases o with
    | none => show cf b _ = 0 + cf b _; omega
    | some a => rfl
theorem lett_lo {lo hi x : Int} (h : x ≤ lo) : lett lo hi x = some true := if_pos h
theorem lett_hi {lo hi x : Int} (h0 : lo < hi) (h : hi ≤ x) : lett lo hi x = some false := by unfold lett; rw [if_neg (by omega), if_pos h]
theorem lett_no {lo hi x : Int} (h1 : lo < x) (h2 : x < hi) : lett lo hi x = none := by unfold lett; rw [if_neg (by omega), if_neg (by omega)]
theorem lett3 (lo hi x : Int) (h0 : lo < hi) : (x ≤ lo ∧ lett lo hi x = some true) ∨ (hi ≤ x ∧ lett lo hi x = some false) ∨ (lo < x ∧ x < hi ∧ lett lo hi x = none) := by
  by_cases a : x ≤ lo
  · exact .inl ⟨a, lett_lo a⟩
  · by_cases b : hi ≤ x
    · exact .inr (.inl ⟨b, lett_hi h0 b⟩)
    · exact .inr (.inr ⟨by omega, by omega, lett_no (by omega) (by omega)⟩)
theorem hl_iff {lo hi : Int} {a b : Int} : hl lo hi (a, b) = decide (a ≤ lo ∧ hi ≤ b) := by
  unfold hl
  by_cases h1 : a ≤ lo <;> by_cases h2 : hi ≤ b <;> simp [h1, h2]
theorem four_up {lo hi a b c d : Int} (h0 : lo < hi) (post : List Int) (o : Option Bool) (h1 : a ≤ c) (h2 : c < b) (h3 : b ≤ d) : cl lo hi o (a :: b :: c :: d :: post) = cl lo hi o (a :: d :: post) + 2 * b1 (hl lo hi (c, b)) := by
  rw [hl_iff]
  simp only [cl_cons]
  rcases lett3 lo hi a h0 with ⟨x1, e1⟩ | ⟨x1, e1⟩ | ⟨x1, y1, e1⟩ <;> rcases lett3 lo hi b h0 with ⟨x2, e2⟩ | ⟨x2, e2⟩ | ⟨x2, y2, e2⟩ <;> rcases lett3 lo hi c h0 with ⟨x3, e3⟩ | ⟨x3, e3⟩ | ⟨x3, y3, e3⟩ <;> rcases lett3 lo hi d h0 with ⟨x4, e4⟩ | ⟨x4, e4⟩ | ⟨x4, y4, e4⟩ <;> first
    | (exfalso; omega)
    | (rw [decide_eq_true (by omega), e1, e2, e3, e4]; simp only [d2, b1]; cases o with
        | none => simp <;> omega
        | some p => cases p <;> simp <;> omega)
    | (rw [decide_eq_false (by omega), e1, e2, e3, e4]; simp only [d2, b1]; cases o with
        | none => simp
        | some p => cases p <;> simp)
theorem four_down {lo hi a b c d : Int} (h0 : lo < hi) (post : List Int) (o : Option Bool) (h1 : c ≤ a) (h2 : b < c) (h3 : d ≤ b) : cl lo hi o (a :: b :: c :: d :: post) = cl lo hi o (a :: d :: post) + 2 * b1 (hl lo hi (b, c)) := by
  rw [hl_iff]
  simp only [cl_cons]
  rcases lett3 lo hi a h0 with ⟨x1, e1⟩ | ⟨x1, e1⟩ | ⟨x1, y1, e1⟩ <;> rcases lett3 lo hi b h0 with ⟨x2, e2⟩ | ⟨x2, e2⟩ | ⟨x2, y2, e2⟩ <;> rcases lett3 lo hi c h0 with ⟨x3, e3⟩ | ⟨x3, e3⟩ | ⟨x3, y3, e3⟩ <;> rcases lett3 lo hi d h0 with ⟨x4, e4⟩ | ⟨x4, e4⟩ | ⟨x4, y4, e4⟩ <;> first
    | (exfalso; omega)
    | (rw [decide_eq_true (by omega), e1, e2, e3, e4]; simp only [d2, b1]; cases o with
        | none => simp <;> omega
        | some p => cases p <;> simp <;> omega)
    | (rw [decide_eq_false (by omega), e1, e2, e3, e4]; simp only [d2, b1]; cases o with
        | none => simp
        | some p => cases p <;> simp)
theorem cl_step {lo hi : Int} (h0 : lo < hi) {p q : List Int} {c : Int × Int} (h : Step p c q) : ZZ p → ∀ o, cl lo hi o p = cl lo hi o q + 2 * b1 (hl lo hi c) := by
  induction h with
  | @here a b c d post t =>
    intro z o
    rcases (taken_iff z.four).mp t with ⟨x1, x2, x3, x4, x5⟩ | ⟨x1, x2, x3, x4, x5⟩
    · rw [rg_down x2]; exact four_up h0 post o x4 x2 x5
    · rw [rg_up x2]; exact four_down h0 post o x4 x2 x5
  | @there x p q cy s ih =>
    intro z o
    rw [cl_cons, cl_cons]
    cases lett lo hi x with
    | none => exact ih z.tail o
    | some b =>
      have := ih z.tail (some b)
      show d2 o b + cl lo hi (some b) p = d2 o b + cl lo hi (some b) q + _
      omega
theorem cl_run {lo hi : Int} (h0 : lo < hi) {p q : List Int} {cs : List (Int × Int)} (h : Run p cs q) : ZZ p → ∀ o, cl lo hi o p = cl lo hi o q + 2 * nh lo hi cs := by
  induction h with
  | nil p => intro _ o; rfl
  | cons s _ ih =>
    intro z o
    rw [cl_step h0 s z o, ih (ZZ.step s z) o, nh_cons]
    omega
/-! the load and its turning points -/
theorem cl_same {lo hi : Int} (o : Option Bool) (a : Int) (l : List Int) : cl lo hi o (a :: a :: l) = cl lo hi o (a :: l) := by
  simp only [cl_cons]
  cases lett lo hi a with
  | none => rfl
  | some b => simp [d2]
theorem cl_btw {lo hi : Int} (h0 : lo < hi) (o : Option Bool) {b a r : Int} (l : List Int) (h : Btw a b r) : cl lo hi o (b :: a :: r :: l) = cl lo hi o (b :: r :: l) := by
  simp only [cl_cons]
  rcases lett3 lo hi a h0 with ⟨x1, e1⟩ | ⟨x1, e1⟩ | ⟨x1, y1, e1⟩ <;> rcases lett3 lo hi b h0 with ⟨x2, e2⟩ | ⟨x2, e2⟩ | ⟨x2, y2, e2⟩ <;> rcases lett3 lo hi r h0 with ⟨x3, e3⟩ | ⟨x3, e3⟩ | ⟨x3, y3, e3⟩ <;> first
    | (exfalso; omega)
    | (rw [e1, e2, e3]; done)
    | (rw [e1, e2, e3]; cases o with
        | none => simp [d2]
        | some p => cases p <;> simp [d2])
theorem cl_tq {lo hi : Int} (h0 : lo < hi) : ∀ (l : List Int) (o : Option Bool) (b a : Int), cl lo hi o (b :: tq b a l) = cl lo hi o (b :: a :: l)
  | [], _, _, _ => rfl
  | r :: l, o, b, a => by
    simp only [tq]
    by_cases e : a = r
    · rw [if_pos e, cl_tq h0 l o b a, ← e, cl_cons lo hi o b (a :: a :: l), cl_cons lo hi o b (a :: l)]
      cases lett lo hi b with
      | none => exact (cl_same _ _ _).symm
      | some x => exact congrArg _ (cl_same _ _ _).symm
    · rw [if_neg e]
      by_cases bt : Btw a b r
      · rw [if_pos bt, cl_tq h0 l o b r, cl_btw h0 o l bt]
      · rw [if_neg bt, cl_cons lo hi o b (a :: tq a r l), cl_cons lo hi o b (a :: r :: l)]
        cases lett lo hi b with
        | none => exact cl_tq h0 l o a r
        | some x => exact congrArg (d2 o x + ·) (cl_tq h0 l (some x) a r)
theorem cl_ts {lo hi : Int} (h0 : lo < hi) : ∀ (l : List Int) (o : Option Bool) (a : Int), cl lo hi o (ts a l) = cl lo hi o (a :: l)
  | [], _, _ => rfl
  | r :: l, o, a => by
    simp only [ts]
    by_cases e : a = r
    · rw [if_pos e, cl_ts h0 l o a, ← e, cl_same]
    · rw [if_neg e, cl_tq h0 l o a r]
theorem cl_tp {lo hi : Int} (h0 : lo < hi) (ns : List Int) : cl lo hi none (tp ns) = chg ns lo hi := by
  cases ns with
  | nil => rfl
  | cons a l => exact cl_ts h0 l none a
/-! the rest: swings that grow and then shrink -/
def In (u v : Int) (ps : List Int) : Prop := ∀ x ∈ ps, u ≤ x ∧ x ≤ v
/-- each swing within the one before -/
def Con : List Int → Prop
  | x :: y :: z :: r => ((y < x ∧ y < z ∧ z ≤ x) ∨ (x < y ∧ z < y ∧ x ≤ z)) ∧ Con (y :: z :: r)
  | _ => True
theorem Con.inside : ∀ {r : List Int} {x y : Int}, Con (x :: y :: r) → x ≠ y → In (if x < y then x else y) (if x < y then y else x) (x :: y :: r)
  | [], x, y, _, h => by
    intro w hw
    rcases List.mem_cons.mp hw with e | hw
    · subst e; split <;> omega
    · rcases List.mem_cons.mp hw with e | hw
      · subst e; split <;> omega
      · exact absurd hw (List.not_mem_nil)
  | z :: r, x, y, c, h => by
    have ih := Con.inside c.2 (by have := c.1; omega)
    intro w hw
    have c1 := c.1
    rcases List.mem_cons.mp hw with e | hw
    · subst e; split <;> omega
    · have := ih w hw
      by_cases e1 : y < z
      · rw [if_pos e1, if_pos e1] at this
        rw [if_neg (by omega), if_neg (by omega)]
        omega
      · rw [if_neg e1, if_neg e1] at this
        rw [if_pos (by omega), if_pos (by omega)]
        omega
theorem nf_con : ∀ {r : List Int} {x y z : Int}, ZZ (x :: y :: z :: r) → NF (x :: y :: z :: r) → ((y < x ∧ z ≤ x) ∨ (x < y ∧ x ≤ z)) → Con (x :: y :: z :: r)
  | [], x, y, z, zz, _, h => ⟨by have := zz.1; omega, trivial⟩
  | w :: r, x, y, z, zz, n, h => by
    have z1 := zz.1
    have z2 := zz.2.1
    refine ⟨by omega, nf_con zz.2 (fun c q s => n _ _ (.there s)) ?_⟩
    have nt : ¬ Taken x y z w := fun t => n _ _ (.here t)
    rw [taken_iff zz.four] at nt
    omega
theorem one_letter {lo hi : Int} {b : Bool} : ∀ (l : List Int) (o : Option Bool), (o = none ∨ o = some b) → (∀ x ∈ l, lett lo hi x = none ∨ lett lo hi x = some b) → cl lo hi o l = 0
  | [], o, _, _ => cl_nil lo hi o
  | x :: l, o, h1, h2 => by
    have ih := fun o h => one_letter l o h (fun x hx => h2 x (List.mem_cons_of_mem _ hx))
    rw [cl_cons]
    rcases h2 x List.mem_cons_self with e | e
    · rw [e]; exact ih o h1
    · rw [e]
      show d2 o b + cl lo hi (some b) l = 0
      rw [ih _ (.inr rfl)]
      rcases h1 with e | e
      · rw [e]; rfl
      · rw [e]; simp [d2]
theorem con_one {lo hi x y : Int} (h0 : lo < hi) {r : List Int} (h : In (if x < y then x else y) (if x < y then y else x) (x :: y :: r)) (ne : x ≠ y) : cl lo hi none (x :: y :: r) = b1 (hl lo hi (rg x y)) + cl lo hi none (y :: r) := by
  have out : ∀ u v, u < v → In u v (x :: y :: r) → hl lo hi (u, v) = false → cl lo hi none (x :: y :: r) = 0 ∧ cl lo hi none (y :: r) = 0 := by
    intro u v huv hin hn
    rw [hl_iff] at hn
    have hn := of_decide_eq_false hn
    by_cases a : u ≤ lo
    · have hb : v < hi := by omega
      have key : ∀ w ∈ x :: y :: r, lett lo hi w = none ∨ lett lo hi w = some true := fun w hw => by
        have := hin w hw
        rcases lett3 lo hi w h0 with ⟨_, e⟩ | ⟨z, e⟩ | ⟨_, _, e⟩
        · exact .inr e
        · omega
        · exact .inl e
      exact ⟨one_letter _ _ (.inl rfl) key, one_letter _ _ (.inl rfl) fun w hw => key w (List.mem_cons_of_mem _ hw)⟩
    · have key : ∀ w ∈ x :: y :: r, lett lo hi w = none ∨ lett lo hi w = some false := fun w hw => by
        have := hin w hw
        rcases lett3 lo hi w h0 with ⟨z, e⟩ | ⟨z, e⟩ | ⟨_, _, e⟩
        · omega
        · exact .inr e
        · exact .inl e
      exact ⟨one_letter _ _ (.inl rfl) key, one_letter _ _ (.inl rfl) fun w hw => key w (List.mem_cons_of_mem _ hw)⟩
  rcases (show x < y ∨ y < x by omega) with h1 | h1
  · rw [if_pos h1, if_pos h1] at h
    rw [rg_up h1]
    cases e : hl lo hi (x, y) with
    | false => obtain ⟨e1, e2⟩ := out x y h1 h e; rw [e1, e2]; rfl
    | true =>
      rw [hl_iff] at e
      have e := of_decide_eq_true e
      rw [cl_cons lo hi none x, cl_cons lo hi none y, lett_lo e.1, lett_hi h0 e.2]
      show d2 none true + cl lo hi (some true) (y :: r) = b1 true + (d2 none false + cl lo hi (some false) r)
      rw [cl_cons, lett_hi h0 e.2]
      simp [d2, b1]
  · rw [if_neg (by omega), if_neg (by omega)] at h
    rw [rg_down h1]
    cases e : hl lo hi (y, x) with
    | false => obtain ⟨e1, e2⟩ := out y x h1 h e; rw [e1, e2]; rfl
    | true =>
      rw [hl_iff] at e
      have e := of_decide_eq_true e
      rw [cl_cons lo hi none x, cl_cons lo hi none y, lett_lo e.1, lett_hi h0 e.2]
      show d2 none false + cl lo hi (some false) (y :: r) = b1 true + (d2 none true + cl lo hi (some true) r)
      rw [cl_cons, lett_lo e.1]
      simp [d2, b1]
theorem wide_one {lo hi x y z : Int} (h0 : lo < hi) {r : List Int} (h : (y < x ∧ x < z) ∨ (x < y ∧ z < x)) : cl lo hi none (x :: y :: z :: r) = b1 (hl lo hi (rg x y)) + cl lo hi none (y :: z :: r) := by
  rcases h with ⟨h1, h2⟩ | ⟨h1, h2⟩
  · rw [rg_down h1, hl_iff]
    simp only [cl_cons]
    rcases lett3 lo hi x h0 with ⟨x1, e1⟩ | ⟨x1, e1⟩ | ⟨x1, y1, e1⟩ <;> rcases lett3 lo hi y h0 with ⟨x2, e2⟩ | ⟨x2, e2⟩ | ⟨x2, y2, e2⟩ <;> rcases lett3 lo hi z h0 with ⟨x3, e3⟩ | ⟨x3, e3⟩ | ⟨x3, y3, e3⟩ <;> first
      | (exfalso; omega)
      | (rw [decide_eq_true (by omega), e1, e2, e3]; simp [d2, b1]; done)
      | (rw [decide_eq_false (by omega), e1, e2, e3]; simp [d2, b1]; done)
  · rw [rg_up h1, hl_iff]
    simp only [cl_cons]
    rcases lett3 lo hi x h0 with ⟨x1, e1⟩ | ⟨x1, e1⟩ | ⟨x1, y1, e1⟩ <;> rcases lett3 lo hi y h0 with ⟨x2, e2⟩ | ⟨x2, e2⟩ | ⟨x2, y2, e2⟩ <;> rcases lett3 lo hi z h0 with ⟨x3, e3⟩ | ⟨x3, e3⟩ | ⟨x3, y3, e3⟩ <;> first
      | (exfalso; omega)
      | (rw [decide_eq_true (by omega), e1, e2, e3]; simp [d2, b1]; done)
      | (rw [decide_eq_false (by omega), e1, e2, e3]; simp [d2, b1]; done)
theorem nf_nh {lo hi : Int} (h0 : lo < hi) : ∀ (ps : List Int), ZZ ps → NF ps → cl lo hi none ps = nh lo hi (sw ps)
  | [], _, _ => rfl
  | [x], _, _ => by
    rw [cl_cons]
    cases lett lo hi x <;> rfl
  | [x, y], zz, _ => by
    have zz : x ≠ y := zz
    show _ = nh lo hi [rg x y]
    rw [nh_cons, con_one h0 (Con.inside (r := []) (x := x) (y := y) (show Con [x, y] from trivial) zz) zz]
    show _ + cl lo hi none [y] = _ + 0
    rw [cl_cons]
    cases lett lo hi y <;> rfl
  | x :: y :: z :: r, zz, n => by
    have ih := nf_nh h0 (y :: z :: r) zz.2 (fun c q s => n _ _ (.there s))
    show _ = nh lo hi (rg x y :: sw (y :: z :: r))
    rw [nh_cons, ← ih]
    have z1 := zz.1
    by_cases h : (y < x ∧ z ≤ x) ∨ (x < y ∧ x ≤ z)
    · exact con_one h0 (Con.inside (nf_con zz n h) (by omega)) (by omega)
    · exact wide_one h0 (by omega)
/-- the changes of a load are the half-cycles that hold the range -/
theorem chg_count {lo hi : Int} (h0 : lo < hi) {ns rs : List Int} {cs : List (Int × Int)} (h : Run (tp ns) cs rs) (n : NF rs) : chg ns lo hi = 2 * nh lo hi cs + nh lo hi (sw rs) := by
  rw [← cl_tp h0, cl_run h0 h (tp_zz ns), nf_nh h0 rs (h.zz (tp_zz ns)) n]
  omega
/-! just a range: the second difference -/
theorem just_one (lo hi : Int) (r : Int × Int) : b1 (decide (r = (lo, hi))) + b1 (hl (lo - 1) hi r) + b1 (hl lo (hi + 1) r) = b1 (hl lo hi r) + b1 (hl (lo - 1) (hi + 1) r) := by
  obtain ⟨u, v⟩ := r
  simp only [hl_iff]
  have e : decide ((u, v) = (lo, hi)) = decide (u = lo ∧ v = hi) := by simp
  rw [e]
  simp only [b1, decide_eq_true_eq]
  repeat' split
  all_goals omega
theorem just {lo hi : Int} : ∀ rs : List (Int × Int), rs.count (lo, hi) + nh (lo - 1) hi rs + nh lo (hi + 1) rs = nh lo hi rs + nh (lo - 1) (hi + 1) rs
  | [] => rfl
  | r :: rs => by
    have ih := just (lo := lo) (hi := hi) rs
    have h1 := just_one lo hi r
    rw [nh_cons, nh_cons, nh_cons, nh_cons, List.count_cons]
    have e : (if (r == (lo, hi)) = true then 1 else 0) = b1 (decide (r = (lo, hi))) := by
      unfold b1
      by_cases z : r = (lo, hi)
      · simp [z]
      · simp [z]
    rw [e]
    omega
end RC

/-! changes of a load -/
namespace QJ
open PySem PySem.Spec PyProof.Rows L2 KA KM PH
abbrev sCh : Stmt := KA.topS 8
theorem scCh : FnScope ["load", "low", "high", "letters", "reading", "one", "other"] ["load", "low", "high"] (defScope sCh) := ⟨rfl, rfl, rfl, by decide +kernel, rfl, by decide +kernel, by decide +kernel⟩
/-! ### letters -/
def ltr (b : Bool) : V := .str (if b = true then ("L" : Str) else ("H" : Str))
theorem ltr_scal (a b : Bool) : scal (ltr a) (ltr b) = true := by cases a <;> cases b <;> rfl
theorem ltr_eq (a b : Bool) : decide (ltr a = ltr b) = decide (a = b) := by
  cases a <;> cases b <;> first | rfl | decide +kernel
theorem cut1 (xs : List V) : cutV xs (some 1) none = xs.drop 1 := by
  unfold cutV
  rw [show HT.sIx xs.length 0 (some 1) = min 1 xs.length from HT.sIx_nat xs.length 0 1, HT.sIx_none]
  cases xs with
  | nil => rfl
  | cons x r =>
    have : min 1 (x :: r).length = 1 := by simp
    rw [this]
    simp
section
variable {P : Program} {w : World} {K : PySem.W.Frag} {mg : Str → Option Value} {base : Heap}
def spCh (K : PySem.W.Frag) : Sp := fun vs H Q _ => ∃ (a : Addr) (ns : List Int) (lo hi : Int), vs = [.ref a, .int lo, .int hi] ∧ SqL K H a (ns.map V.int) ∧ ns.length ≤ 3000 ∧ ∀ H', Same H H' → Q (.int (chg ns lo hi : Nat)) H'
def spChT (K : PySem.W.Frag) : Sp := fun vs H Q _ => ∃ (a : Addr) (ns : List Int) (lo hi : Int), vs = [.ref a, .int lo, .int hi] ∧ SqT K H a (ns.map V.int) ∧ ns.length ≤ 3000 ∧ ∀ H', Same H H' → Q (.int (chg ns lo hi : Nat)) H'
/-- behind the letters: the pairs that differ -/
theorem ok_ch {f : Addr} {fd : FuncData} {k : Nat} (F : Fun K "changes" "changes" sCh f fd) (ml : mg "len" = none) (mz : mg "zip" = none) : FnOk P w K mg base CX0 (k + 1) f fd ["load", "low", "high"] (spCh K) := by
  refine F.ok scCh (fun vs H Q E h => ?_) (fun cdv A outer s H vs Q E hr h => ?_)
  · obtain ⟨a, ns, lo, hi, rfl, _⟩ := h
    rfl
  · obtain ⟨a, ns, lo, hi, rfl, hS, hlen, q⟩ := h
    refine ⟨_, pss_cons (ps_setLc (i := 3) (own := [("reading", 4)]) (g := gName 4) rfl scCh.nd rfl rfl (sw_true rfl rfl rfl (by decide +kernel)) (pi_list (pv 0))
        (blkOk_by (own := [("reading", 4)]) (N := ["load", "low", "high", "letters", "reading", "one", "other"]) (sc := defScope sCh) (by decide +kernel))
        (fun _ _ _ _ _ => pg_name (i := 4) scCh.nd rfl (Or.inl rfl))
        (fun _ _ _ _ _ => pts_one (PW.pt (pw_or (pt_cmpR op_le (pv 4) (pv 1) (nomark _)) (pw_or1 (pt_cmpR op_ge (pv 4) (pv 2) (nomark _))))))
        (fun _ _ _ _ _ => pe_ifExp (pt_cmpR op_le (pv 4) (pv 1) (nomark _)) pe_str pe_str))
      (pss_one (ps_ret (pe_callB call_len_seq (by rfl) ml PySem.boot_len (pa_cons
        (pe_lc (own := [("one", 5), ("other", 6)]) (g := gTup K 2 (gCons (gName 5) (gCons (gName 6) gNil))) rfl scCh.nd (pi_zip (by rfl) mz (pa_cons (pv 3) (pa_cons (pe_slice sl_list (pv 3) (po_some pe_int) po_none) pa_nil)))
          (blkOk_by (own := [("one", 5), ("other", 6)]) (N := ["load", "low", "high", "letters", "reading", "one", "other"]) (sc := defScope sCh) (by decide +kernel))
          (fun _ _ _ _ _ => pg_tup rfl (pgs_cons (pg_name (i := 5) scCh.nd rfl (Or.inl rfl) (Or.inr rfl)) (pgs_cons (pg_name (i := 6) scCh.nd rfl (Or.inl rfl) (Or.inr rfl)) pgs_nil)))
          (fun _ _ _ _ _ => pts_one (pt_cmpR op_ne (pv 5) (pv 6) (nomark _))) (fun _ _ _ _ _ => pv 5)) pa_nil)))), ?_⟩
    refine ⟨.ref a, rfl, a, rfl, ⟨_, hS⟩, fun D nD => lc_list (K := K) (a := a) (xs := ns.map V.int) (fun i H' => H' = upd H D (.lst ((lets lo hi (ns.take i)).map ltr))) ?_ ?_ ?_ ?_⟩
    · rfl
    · rintro i H' _ rfl
      exact (same_new nD).seq hS
    · rintro i x H' hx rfl
      obtain ⟨r, hr2, rfl⟩ := int_at hx
      have et := lets_take (lo := lo) (hi := hi) hr2
      have hin : i < ns.length := (List.getElem?_eq_some_iff.mp hr2).1
      refine ⟨rfl, .int r, rfl, .int lo, rfl, r, lo, rfl, rfl, _, rfl, ite2 (fun e => ?_) (fun e => ?_)⟩
      · have h1 : r ≤ lo := of_decide_eq_true e
        refine iteT ⟨.int r, rfl, .int lo, rfl, r, lo, rfl, rfl, _, rfl, ite2 (fun _ => ?_) (fun z => absurd e z)⟩
        refine ⟨_, upd_same, ?_, ?_⟩
        · rw [List.length_map]
          have := lets_len lo hi (ns.take i)
          rw [List.length_take] at this
          exact small3000 (by omega)
        · rw [upd_upd, et]
          unfold lett
          rw [if_pos h1]
          dsimp only
          rw [List.map_append]
          rfl
      · have h1 : ¬ r ≤ lo := fun z => e (decide_eq_true z)
        refine ⟨.int r, rfl, .int hi, rfl, r, hi, rfl, rfl, _, rfl, ?_⟩
        by_cases h2 : r ≥ hi
        · rw [decide_eq_true h2]
          refine iteT ⟨.int r, rfl, .int lo, rfl, r, lo, rfl, rfl, _, rfl, ite2 (fun z => absurd z e) (fun _ => ?_)⟩
          refine ⟨_, upd_same, ?_, ?_⟩
          · rw [List.length_map]
            have := lets_len lo hi (ns.take i)
            rw [List.length_take] at this
            exact small3000 (by omega)
          · rw [upd_upd, et]
            unfold lett
            rw [if_neg h1, if_pos h2]
            dsimp only
            rw [List.map_append]
            rfl
        · rw [decide_eq_false h2]
          refine iteF ?_
          rw [et]
          unfold lett
          rw [if_neg h1, if_neg h2]
    · rintro H' rfl
      have e0 : ns.take (ns.map V.int).length = ns := by rw [List.length_map]; exact List.take_length
      rw [e0]
      generalize hls : lets lo hi ns = ls
      have hll : ls.length ≤ 3000 := by have := lets_len lo hi ns; rw [hls] at this; omega
      have s1 : Same H (upd H D (.lst (ls.map ltr))) := same_new nD
      have hD : SqL K (upd H D (.lst (ls.map ltr))) D (ls.map ltr) := SqL.of upd_same
      refine ⟨.ref D, rfl, .ref D, rfl, 1, rfl, D, ls.map ltr, rfl, hD, fun c nc => ?_⟩
      rw [cut1]
      have ncD : c ≠ D := fun e => by rw [e, upd_same] at nc; cases nc
      have s2 : Same H (upd (upd H D (.lst (ls.map ltr))) c (.lst ((ls.map ltr).drop 1))) := s1.trans (same_new nc)
      refine ⟨D, c, ls.map ltr, (ls.map ltr).drop 1, rfl, (same_new nc).seq hD, SqL.of upd_same, fun R nR => ?_⟩
      have nRD : R ≠ D := fun e => by rw [e, upd_ne ncD.symm, upd_same] at nR; cases nR
      have nRc : R ≠ c := fun e => by rw [e, upd_same] at nR; cases nR
      have hH2 : H R = none := s2.free nR
      refine lc_it (walk_zip (K := K) (a := D) (b := c) (xs := ls.map ltr) (ys := (ls.map ltr).drop 1) (n := ls.length - 1) (by rw [List.length_drop, List.length_map]; omega))
        (fun i H' => Same H H' ∧ H' D = some (.lst (ls.map ltr)) ∧ H' c = some (.lst ((ls.map ltr).drop 1)) ∧ ∃ acc : List V, H' R = some (.lst acc) ∧ acc.length ≤ i ∧ acc.length + cnt (ls.drop i) = cnt ls) ?_ ?_ ?_ ?_
      · refine ⟨s2.trans (same_new nR), ?_, ?_, [], upd_same, Nat.le_refl _, ?_⟩
        · rw [upd_ne nRD.symm, upd_ne ncD.symm, upd_same]
        · rw [upd_ne nRc.symm, upd_same]
        · show 0 + cnt ls = cnt ls
          omega
      · rintro i H' _ ⟨_, z1, z2, _⟩
        exact ⟨SqL.of z1, SqL.of z2⟩
      · rintro i x H1 H2 hi1 ⟨sm, z1, z2, acc, z3, z4, z5⟩ ⟨T, u, v, rfl, nT, rfl, g1, g2⟩
        have hi2 : i + 1 < ls.length := by omega
        have hi3 : i < ls.length := by omega
        have g1 : (ls.map ltr)[i]? = some u := g1
        have g2 : ((ls.map ltr).drop 1)[i]? = some v := g2
        have eu : u = ltr ls[i] := by
          rw [List.getElem?_map, List.getElem?_eq_getElem hi3] at g1
          exact (Option.some.inj g1).symm
        have ev : v = ltr ls[i + 1] := by
          rw [List.getElem?_drop, List.getElem?_map, Nat.add_comm 1 i, List.getElem?_eq_getElem hi2] at g2
          exact (Option.some.inj g2).symm
        have nTR : R ≠ T := ne_of_none z3 nT
        have nTD : D ≠ T := ne_of_none z1 nT
        have nTc : c ≠ T := ne_of_none z2 nT
        have sT : Same H1 (upd H1 T (.tup [u, v])) := same_new nT
        have cd := cnt_drop (List.getElem?_eq_getElem hi3) (List.getElem?_eq_getElem hi2)
        refine ⟨T, [u, v], rfl, SqT.of upd_same, rfl, u, [v], rfl, v, [], rfl, ?_⟩
        refine ⟨rfl, rfl, u, rfl, v, rfl, by rw [eu, ev]; exact ltr_scal _ _, _, rfl, ?_⟩
        rw [eu, ev, ltr_eq]
        by_cases hq : ls[i] = ls[i + 1]
        · rw [decide_eq_true hq]
          refine iteF ⟨sm.trans (by rw [← eu, ← ev]; exact sT), ?_, ?_, acc, ?_, by omega, ?_⟩
          · rw [upd_ne nTD]; exact z1
          · rw [upd_ne nTc]; exact z2
          · rw [upd_ne nTR]; exact z3
          · rw [if_pos hq] at cd
            omega
        · rw [decide_eq_false hq]
          have z3' : (upd H1 T (.tup [ltr ls[i], ltr ls[i + 1]])) R = some (.lst acc) := by rw [upd_ne nTR]; exact z3
          refine iteT ⟨ltr ls[i], rfl, acc, z3', small3000 (by omega), ?_, ?_, ?_, acc ++ [ltr ls[i]], upd_same, by rw [List.length_append, List.length_singleton]; omega, ?_⟩
          · exact same_again hH2 (sm.trans (by rw [← eu, ← ev]; exact sT))
          · rw [upd_ne nRD.symm, upd_ne nTD]; exact z1
          · rw [upd_ne nRc.symm, upd_ne nTc]; exact z2
          · rw [if_neg hq] at cd
            rw [List.length_append, List.length_singleton]
            omega
      · rintro H' ⟨sm, z1, z2, acc, z3, z4, z5⟩
        have ce : cnt (ls.drop (ls.length - 1)) = 0 := cnt_end (by omega)
        refine ⟨R, acc, rfl, .inl (SqL.of z3), ?_⟩
        have ea : acc.length = chg ns lo hi := by
          show acc.length = cnt (lets lo hi ns)
          rw [hls]
          omega
        rw [ea]
        exact q H' sm
theorem ok_chT {f : Addr} {fd : FuncData} {k : Nat} (F : Fun K "changes" "changes" sCh f fd) (ml : mg "len" = none) (mz : mg "zip" = none) : FnOk P w K mg base CX0 (k + 1) f fd ["load", "low", "high"] (spChT K) := by
  refine F.ok scCh (fun vs H Q E h => ?_) (fun cdv A outer s H vs Q E hr h => ?_)
  · obtain ⟨a, ns, lo, hi, rfl, _⟩ := h
    rfl
  · obtain ⟨a, ns, lo, hi, rfl, hS, hlen, q⟩ := h
    refine ⟨_, pss_cons (ps_setLc (i := 3) (own := [("reading", 4)]) (g := gName 4) rfl scCh.nd rfl rfl (sw_true rfl rfl rfl (by decide +kernel)) (pi_tup (pv 0))
        (blkOk_by (own := [("reading", 4)]) (N := ["load", "low", "high", "letters", "reading", "one", "other"]) (sc := defScope sCh) (by decide +kernel))
        (fun _ _ _ _ _ => pg_name (i := 4) scCh.nd rfl (Or.inl rfl))
        (fun _ _ _ _ _ => pts_one (PW.pt (pw_or (pt_cmpR op_le (pv 4) (pv 1) (nomark _)) (pw_or1 (pt_cmpR op_ge (pv 4) (pv 2) (nomark _))))))
        (fun _ _ _ _ _ => pe_ifExp (pt_cmpR op_le (pv 4) (pv 1) (nomark _)) pe_str pe_str))
      (pss_one (ps_ret (pe_callB call_len_seq (by rfl) ml PySem.boot_len (pa_cons
        (pe_lc (own := [("one", 5), ("other", 6)]) (g := gTup K 2 (gCons (gName 5) (gCons (gName 6) gNil))) rfl scCh.nd (pi_zip (by rfl) mz (pa_cons (pv 3) (pa_cons (pe_slice sl_list (pv 3) (po_some pe_int) po_none) pa_nil)))
          (blkOk_by (own := [("one", 5), ("other", 6)]) (N := ["load", "low", "high", "letters", "reading", "one", "other"]) (sc := defScope sCh) (by decide +kernel))
          (fun _ _ _ _ _ => pg_tup rfl (pgs_cons (pg_name (i := 5) scCh.nd rfl (Or.inl rfl) (Or.inr rfl)) (pgs_cons (pg_name (i := 6) scCh.nd rfl (Or.inl rfl) (Or.inr rfl)) pgs_nil)))
          (fun _ _ _ _ _ => pts_one (pt_cmpR op_ne (pv 5) (pv 6) (nomark _))) (fun _ _ _ _ _ => pv 5)) pa_nil)))), ?_⟩
    refine ⟨.ref a, rfl, a, rfl, ⟨_, hS⟩, fun D nD => lc_tup (K := K) (a := a) (xs := ns.map V.int) (fun i H' => H' = upd H D (.lst ((lets lo hi (ns.take i)).map ltr))) ?_ ?_ ?_ ?_⟩
    · rfl
    · rintro i H' _ rfl
      exact SqT_same (same_new nD) hS
    · rintro i x H' hx rfl
      obtain ⟨r, hr2, rfl⟩ := int_at hx
      have et := lets_take (lo := lo) (hi := hi) hr2
      have hin : i < ns.length := (List.getElem?_eq_some_iff.mp hr2).1
      refine ⟨rfl, .int r, rfl, .int lo, rfl, r, lo, rfl, rfl, _, rfl, ite2 (fun e => ?_) (fun e => ?_)⟩
      · have h1 : r ≤ lo := of_decide_eq_true e
        refine iteT ⟨.int r, rfl, .int lo, rfl, r, lo, rfl, rfl, _, rfl, ite2 (fun _ => ?_) (fun z => absurd e z)⟩
        refine ⟨_, upd_same, ?_, ?_⟩
        · rw [List.length_map]
          have := lets_len lo hi (ns.take i)
          rw [List.length_take] at this
          exact small3000 (by omega)
        · rw [upd_upd, et]
          unfold lett
          rw [if_pos h1]
          dsimp only
          rw [List.map_append]
          rfl
      · have h1 : ¬ r ≤ lo := fun z => e (decide_eq_true z)
        refine ⟨.int r, rfl, .int hi, rfl, r, hi, rfl, rfl, _, rfl, ?_⟩
        by_cases h2 : r ≥ hi
        · rw [decide_eq_true h2]
          refine iteT ⟨.int r, rfl, .int lo, rfl, r, lo, rfl, rfl, _, rfl, ite2 (fun z => absurd z e) (fun _ => ?_)⟩
          refine ⟨_, upd_same, ?_, ?_⟩
          · rw [List.length_map]
            have := lets_len lo hi (ns.take i)
            rw [List.length_take] at this
            exact small3000 (by omega)
          · rw [upd_upd, et]
            unfold lett
            rw [if_neg h1, if_pos h2]
            dsimp only
            rw [List.map_append]
            rfl
        · rw [decide_eq_false h2]
          refine iteF ?_
          rw [et]
          unfold lett
          rw [if_neg h1, if_neg h2]
    · rintro H' rfl
      have e0 : ns.take (ns.map V.int).length = ns := by rw [List.length_map]; exact List.take_length
      rw [e0]
      generalize hls : lets lo hi ns = ls
      have hll : ls.length ≤ 3000 := by have := lets_len lo hi ns; rw [hls] at this; omega
      have s1 : Same H (upd H D (.lst (ls.map ltr))) := same_new nD
      have hD : SqL K (upd H D (.lst (ls.map ltr))) D (ls.map ltr) := SqL.of upd_same
      refine ⟨.ref D, rfl, .ref D, rfl, 1, rfl, D, ls.map ltr, rfl, hD, fun c nc => ?_⟩
      rw [cut1]
      have ncD : c ≠ D := fun e => by rw [e, upd_same] at nc; cases nc
      have s2 : Same H (upd (upd H D (.lst (ls.map ltr))) c (.lst ((ls.map ltr).drop 1))) := s1.trans (same_new nc)
      refine ⟨D, c, ls.map ltr, (ls.map ltr).drop 1, rfl, (same_new nc).seq hD, SqL.of upd_same, fun R nR => ?_⟩
      have nRD : R ≠ D := fun e => by rw [e, upd_ne ncD.symm, upd_same] at nR; cases nR
      have nRc : R ≠ c := fun e => by rw [e, upd_same] at nR; cases nR
      have hH2 : H R = none := s2.free nR
      refine lc_it (walk_zip (K := K) (a := D) (b := c) (xs := ls.map ltr) (ys := (ls.map ltr).drop 1) (n := ls.length - 1) (by rw [List.length_drop, List.length_map]; omega))
        (fun i H' => Same H H' ∧ H' D = some (.lst (ls.map ltr)) ∧ H' c = some (.lst ((ls.map ltr).drop 1)) ∧ ∃ acc : List V, H' R = some (.lst acc) ∧ acc.length ≤ i ∧ acc.length + cnt (ls.drop i) = cnt ls) ?_ ?_ ?_ ?_
      · refine ⟨s2.trans (same_new nR), ?_, ?_, [], upd_same, Nat.le_refl _, ?_⟩
        · rw [upd_ne nRD.symm, upd_ne ncD.symm, upd_same]
        · rw [upd_ne nRc.symm, upd_same]
        · show 0 + cnt ls = cnt ls
          omega
      · rintro i H' _ ⟨_, z1, z2, _⟩
        exact ⟨SqL.of z1, SqL.of z2⟩
      · rintro i x H1 H2 hi1 ⟨sm, z1, z2, acc, z3, z4, z5⟩ ⟨T, u, v, rfl, nT, rfl, g1, g2⟩
        have hi2 : i + 1 < ls.length := by omega
        have hi3 : i < ls.length := by omega
        have g1 : (ls.map ltr)[i]? = some u := g1
        have g2 : ((ls.map ltr).drop 1)[i]? = some v := g2
        have eu : u = ltr ls[i] := by
          rw [List.getElem?_map, List.getElem?_eq_getElem hi3] at g1
          exact (Option.some.inj g1).symm
        have ev : v = ltr ls[i + 1] := by
          rw [List.getElem?_drop, List.getElem?_map, Nat.add_comm 1 i, List.getElem?_eq_getElem hi2] at g2
          exact (Option.some.inj g2).symm
        have nTR : R ≠ T := ne_of_none z3 nT
        have nTD : D ≠ T := ne_of_none z1 nT
        have nTc : c ≠ T := ne_of_none z2 nT
        have sT : Same H1 (upd H1 T (.tup [u, v])) := same_new nT
        have cd := cnt_drop (List.getElem?_eq_getElem hi3) (List.getElem?_eq_getElem hi2)
        refine ⟨T, [u, v], rfl, SqT.of upd_same, rfl, u, [v], rfl, v, [], rfl, ?_⟩
        refine ⟨rfl, rfl, u, rfl, v, rfl, by rw [eu, ev]; exact ltr_scal _ _, _, rfl, ?_⟩
        rw [eu, ev, ltr_eq]
        by_cases hq : ls[i] = ls[i + 1]
        · rw [decide_eq_true hq]
          refine iteF ⟨sm.trans (by rw [← eu, ← ev]; exact sT), ?_, ?_, acc, ?_, by omega, ?_⟩
          · rw [upd_ne nTD]; exact z1
          · rw [upd_ne nTc]; exact z2
          · rw [upd_ne nTR]; exact z3
          · rw [if_pos hq] at cd
            omega
        · rw [decide_eq_false hq]
          have z3' : (upd H1 T (.tup [ltr ls[i], ltr ls[i + 1]])) R = some (.lst acc) := by rw [upd_ne nTR]; exact z3
          refine iteT ⟨ltr ls[i], rfl, acc, z3', small3000 (by omega), ?_, ?_, ?_, acc ++ [ltr ls[i]], upd_same, by rw [List.length_append, List.length_singleton]; omega, ?_⟩
          · exact same_again hH2 (sm.trans (by rw [← eu, ← ev]; exact sT))
          · rw [upd_ne nRD.symm, upd_ne nTD]; exact z1
          · rw [upd_ne nRc.symm, upd_ne nTc]; exact z2
          · rw [if_neg hq] at cd
            rw [List.length_append, List.length_singleton]
            omega
      · rintro H' ⟨sm, z1, z2, acc, z3, z4, z5⟩
        have ce : cnt (ls.drop (ls.length - 1)) = 0 := cnt_end (by omega)
        refine ⟨R, acc, rfl, .inl (SqL.of z3), ?_⟩
        have ea : acc.length = chg ns lo hi := by
          show acc.length = cnt (lets lo hi ns)
          rw [hls]
          omega
        rw [ea]
        exact q H' sm
end
end QJ

/-! changes of a count -/
namespace QK
open PySem PySem.Spec PyProof.Rows L2 KA PH PM PA PB PC RM RN RC QE QF QG QH
abbrev sPG : Stmt := inClass sClass 7
theorem scPG : FnScope ["self", "low", "high", "outer"] ["self", "low", "high"] (defScope sPG) := ⟨rfl, rfl, rfl, by decide +kernel, rfl, by decide +kernel, by decide +kernel⟩
theorem pairs_get {H : Hp} : ∀ {xs : List V} {rs : List (Int × Int)} {i : Nat} {x : V}, PairsAt H xs rs → xs[i]? = some x → ∃ p r, x = .ref p ∧ rs[i]? = some r ∧ H p = some (.tup [.int r.1, .int r.2])
  | x :: xs, r :: rs, 0, y, ⟨⟨p, h1, h2⟩, _⟩, e => ⟨p, r, by rw [← h1]; exact (Option.some.inj e).symm, rfl, h2⟩
  | x :: xs, r :: rs, i + 1, y, ⟨_, h⟩, e => pairs_get (xs := xs) (rs := rs) (i := i) h e
  | [], [], _, _, _, e => by simp at e
  | [], _ :: _, _, _, h, _ => h.elim
  | _ :: _, [], _, _, h, _ => h.elim
section
variable {P : Program} {w : World} {K : PySem.W.Frag} {mg : Str → Option Value} {base : Heap}
def spPG (C : Addr) : Sp := fun vs H Q _ => ∃ (x : Addr) (ds : List (Int × Int)) (rs : List Int) (lo hi : Int), vs = [.ref x, .int lo, .int hi] ∧ CountAt H C x ds rs ∧ ds.length ≤ 2500 ∧ rs.length ≤ 2500 ∧ ZZ rs ∧ ∀ H', Same H H' → Q (.int ((2 * nh lo hi ds + nh lo hi (sw rs) : Nat) : Int)) H'
theorem nh_take {lo hi : Int} {rs : List (Int × Int)} {i : Nat} {r : Int × Int} (h : rs[i]? = some r) : nh lo hi (rs.take (i + 1)) = nh lo hi (rs.take i) + b1 (hl lo hi r) := by
  rw [List.take_add_one, h, nh_app]
  show _ + nh lo hi [r] = _
  rw [nh_cons]
  rfl
theorem ok_PG {C p3 f fH fC : Addr} {fd dH fdC : FuncData} {k : Nat} (F : Fun K "changes" "Count.changes" sPG f fd) (T : Cnt K C) (prH : PropOf K C "half_cycles" p3 fH)
    (GH : FnOk P w K mg base CX0 (k + 4) fH dH ["self"] (spPH C)) (bH : Binds K dH ["self"] [])
    (GC : FnOk P w K mg base CX0 (k + 1) fC fdC ["outer", "inner"] (spCont K)) (gC : mg "contains" = some (.ref fC)) (kC : PySem.W.keepIn K (.ref fC) = true) (bC : Binds K fdC ["outer", "inner"] [])
    (ml : mg "len" = none) : FnOk P w K mg base CX0 (k + 6) f fd ["self", "low", "high"] (spPG C) := by
  refine F.ok scPG (fun vs H Q E h => ?_) (fun cdv A outer s H vs Q E hr h => ?_)
  · obtain ⟨x, ds, rs, lo, hi, rfl, _⟩ := h
    rfl
  · obtain ⟨x, ds, rs, lo, hi, rfl, hc, ld, lr, zz, hq⟩ := h
    refine ⟨_, pss_one (ps_ret (pe_callB call_len_seq (by rfl) ml PySem.boot_len (pa_cons (pe_lc (own := [("outer", 3)]) (g := gName 3) (tt := tB (tCall (spCont K) [] E0 (tCons (tVar 3) (tCons (tTup (tCons (tVar 1) (tCons (tVar 2) tNil))) tNil)))) (te := tVar 3) rfl scPG.nd
        (pi_tup (pe_prop (pv 0) T.cl prH GH hr bH .nil pass0 (by rfl)))
        (blkOk_by (own := [("outer", 3)]) (N := ["self", "low", "high", "outer"]) (sc := defScope sPG) (by decide +kernel)) (fun _ _ _ _ _ => pg_name (i := 3) scPG.nd rfl (Or.inl rfl) (Or.inr rfl))
        (fun _ _ _ _ _ => pts_one (pt_val (pe_call GC (hr.mono (by omega)) (by rfl) gC kC bC .nil pass0 (pa_cons (pv 3) (pa_cons (pe_tup (pa_cons (pv 1) (pa_cons (pv 2) pa_nil))) pa_nil))))) (fun _ _ _ _ _ => pv 3)) pa_nil))), ?_⟩
    obtain ⟨dx, t1, t2, ys, h1, h2, h3, h4⟩ := hc
    refine ⟨.ref x, rfl, x, dx, _, rfl, h1, x, ds, rs, rfl, ⟨dx, t1, t2, ys, h1, h2, h3, h4⟩, ld, lr, zz, fun H1 t zs es s1 et pe perm srt => ⟨t, rfl, ⟨_, SqT.of et⟩, fun D nD => lc_tup (K := K) (a := t) (xs := zs) (fun i Hz => Same H1 Hz ∧ ∃ acc : List V, acc.length = nh lo hi (es.take i) ∧ Hz D = some (.lst acc)) ⟨same_new nD, [], rfl, upd_same⟩ (fun i Hz _ z => SqT.of (z.1 _ _ et)) ?_ ?_⟩⟩
    · have le : es.length ≤ 8000 := by
        rw [perm.length_eq]
        simp only [List.length_append, sw_len]
        omega
      rintro i y Hz hy ⟨sz, acc, el, eD⟩
      obtain ⟨p, r, rfl, er, hp⟩ := pairs_get pe hy
      have hi' := (List.getElem?_eq_some_iff.mp er).1
      have hacc : acc.length ≤ 8000 := by
        rw [el]
        exact Nat.le_trans (List.countP_le_length) (by rw [List.length_take]; omega)
      refine ⟨rfl, .ref p, rfl, .int lo, rfl, .int hi, rfl, by show 2 ≤ sizeLine; decide, fun q nq => ?_⟩
      have sq := same_new (o := .tup [.int lo, .int hi]) nq
      refine ⟨p, q, r.1, r.2, lo, hi, rfl, SqT.of (sq _ _ (sz _ _ hp)), SqT.of upd_same, _, rfl, ?_⟩
      have step := nh_take (lo := lo) (hi := hi) er
      have eh : hl lo hi r = (decide (r.1 ≤ lo) && decide (hi ≤ r.2)) := rfl
      rw [← eh]
      cases e : hl lo hi r with
      | true =>
        rw [e] at step
        refine iteT ⟨.ref p, rfl, _, sq _ _ eD, Nat.lt_of_le_of_lt hacc (by decide), same_again nD (sz.trans sq), acc ++ [.ref p], by rw [List.length_append, el, step]; rfl, upd_same⟩
      | false =>
        rw [e] at step
        exact iteF ⟨sz.trans sq, acc, by rw [el, step]; rfl, sq _ _ eD⟩
    · rintro Hz ⟨sz, acc, el, eD⟩
      refine ⟨D, acc, rfl, .inl (SqL.of eD), ?_⟩
      have e : acc.length = 2 * nh lo hi ds + nh lo hi (sw rs) := by
        rw [el, List.take_of_length_le (by rw [pe.length]; exact Nat.le_refl _), nh_perm perm, nh_app, nh_app]
        omega
      rw [e]
      exact hq _ (s1.trans sz)
end
end QK

/-! == and != of two instances by an own __eq__, both answers -/
namespace GN
open PySem PySem.Spec PyProof.Rows L2
section
variable {M : Model} {prog : Program} {w : World} {A : Around} {E : Value → Shared → Prop} {s : Shared} {K : PySem.W.Frag} {x C L f : Addr} {ox : Obj} {od : Option Obj}
theorem entry_ne {y : Value} (X : K.In s.heap) (I : PySem.W.InstAt s.heap x ox C od) (hs : PySem.W.findIn K (.ref C) "__eq__" = some (some (.ref f))) (hf : PySem.W.isFn K (.ref f) = true) (hu : A.units < cLine) {Q : Fin → Shared → Prop}
    (hcall : wpAny (model prog w) A (call (.ref f) [.ref x, y]) (fun v s' => ∃ b, v = .bool b ∧ Q (.done (.ret (.bool (!b)))) s') E s) :
    wpAny (model prog w) A (Builtin.«object.__ne__» ⟨[.ref x, y], []⟩) Q E s := by
  unfold Builtin.«object.__ne__»
  repeat (first
    | with_reducible refine wpAny_cRoomFor hu ?_
    | (refine wpAny_bind (m := callSpecialIfBound? (.ref x) (Str.ofString "__eq__") [y])
        (PySem.W.ifBound_K X I hs hf (wpAny_mono hcall (fun r s' hr => by
          obtain ⟨b, rfl, hq⟩ := hr
          repeat (first | exact hq | exact wpAny_pure hq | exact wpAny_truthy_bool hq | (refine wpAny_bind (m := truthy (.bool _)) (wpAny_truthy_bool ?_)) | wp_step)) fun _ _ e => e)))
    | wp_step)
theorem ifBound_ne {args : List Value} {Q : Option Value → Shared → Prop} (X : K.In s.heap) (I : PySem.W.InstAt s.heap x ox C od) (hs : PySem.W.findIn K (.ref C) "__ne__" = some (some (.builtin "object.__ne__")))
    (h : wpAny M A (call (.builtin "object.__ne__") (.ref x :: args)) (fun v => Q (some v)) E s) : wpAny M A (callSpecialIfBound? (.ref x) "__ne__" args) Q E s := by
  simp only [callSpecialIfBound?, bindSpecialIfBound?]
  refine wpAny_holding (wpAny_bind (wpAny_bind (wpAny_bind (I.type.here ((PySem.W.looks_findIn X hs).here ?_)))))
  refine wpAny_bind (wpAny_askSetting (wpAny_ite ?_))
  have fin : wpAny M A (call (.builtin "object.__ne__") ([.ref x] ++ args) >>= fun v => pure (some v)) Q E s := wpAny_bind (wpAny_mono h (fun v s' h' => wpAny_pure h') fun _ _ h' => h')
  split
  · exact wpAny_bind (wpAny_of_eq (F.cmp_object.ne.bind _) (wpAny_pure (by exact fin)))
  · exact wpAny_tryCatch (wpAny_bind (wpAny_of_eq (F.cmp_object.ne.bind _) (wpAny_pure (by exact fin))))
theorem rc_ne {b tb : Value} {Q : Value → Shared → Prop} (hu : A.units + 1 < cLine) (X : K.In s.heap) (I : PySem.W.InstAt s.heap x ox C od) (hb : PySem.W.Looks (model prog w) s.heap (typeOf b) tb) (hn : PySem.W.notFirst K C tb = true)
    (hm : PySem.W.mroIn K C (.type "object") = some true) (hs : PySem.W.findIn K (.ref C) "__eq__" = some (some (.ref f))) (hf : PySem.W.isFn K (.ref f) = true) (hne : PySem.W.findIn K (.ref C) "__ne__" = some (some (.builtin "object.__ne__")))
    (h : wpAny (model prog w) A.in1 (call (.ref f) [.ref x, b]) (fun v s' => ∃ r, v = .bool r ∧ Q (.bool (!r)) s') E s) : wpAny (model prog w) A (richCompare .NotEq (.ref x) b) Q E s := by
  have one : wpAny (model prog w) A (tryCompare (.ref x) "__ne__" b) (fun r s' => ∃ v, r = some v ∧ Q v s') E s := by
    unfold tryCompare
    refine wpAny_bind (ifBound_ne X I hne (wpAny_call (codeAny_call_builtin F.cmp_object.ne.plain F.cmpEntry_ne (PySem.W.check_slot F.cmpKind_ne F.cmpSplit_ne (I.type.andThen (PySem.W.looks_mroIn X hm)) (F.cmpArgs_ne _ _)
      (entry_ne (A := A.in1) X I hs hf hu (wpAny_mono h (fun v s' hv => ?_) fun _ _ e => e))))))
    obtain ⟨r, rfl, hq⟩ := hv
    first
      | exact ⟨r, rfl, wpAny_pure ⟨_, rfl, hq⟩⟩
      | exact ⟨r, rfl, wpAny_pure (wpAny_pure ⟨_, rfl, hq⟩)⟩
      | exact ⟨r, rfl, _, rfl, hq⟩
  unfold richCompare
  simp only [oneThing_ref]
  refine wpAny_holding (wpAny_bind (wpAny_cRoomFor (Nat.lt_of_succ_lt hu) ?_))
  refine wpAny_bind (I.type.here (wpAny_bind (hb.here ?_)))
  split
  · rename_i q
    have e : PySem.W.subIn K tb (.ref C) = some false := by
      rcases Bool.or_eq_true_iff.mp hn with e | e
      · rw [beq_iff_eq.mp e] at q; simp at q
      · exact beq_iff_eq.mp e
    refine wpAny_bind ((PySem.W.looks_subIn X e).here ?_)
    simp only [Bool.false_eq_true, if_false]
    refine wpAny_bind (wpAny_mono one (fun r s' z => ?_) fun _ _ e => e)
    obtain ⟨v, rfl, hq⟩ := z
    exact wpAny_pure hq
  · refine wpAny_bind (wpAny_pure ?_)
    simp only [Bool.false_eq_true, if_false]
    refine wpAny_bind (wpAny_mono one (fun r s' z => ?_) fun _ _ e => e)
    obtain ⟨v, rfl, hq⟩ := z
    exact wpAny_pure hq
end
section
variable {X : Cx} {n : Nat} {CX : CXT} {C f : Addr} {fd : FuncData} {ps : List Str} {sp : Sp} {E : XK}
/-- a def of the text, called from below -/
theorem call_own (F : FnOk X.prog X.w X.K X.mg X.base CX n f fd ps sp) (hb : Binds X.K fd ps []) (hx : Passes CX X E) {A : Around} (sb : Sub X n A) {pins : List (Addr × Obj)} {σ : L2.St} {H : Hp} {s : Shared} (I : Inv X pins σ H s) {vs : List V} {us : List Value} (r2 : Vals vs us) {Q : VK} (hsp : sp vs H Q E) :
    wpAny (model X.prog X.w) A (call (.ref f) us) (fun v s' => ∃ z H', Inv X pins σ H' s' ∧ RelV z v ∧ Q z H') X.xe s := by
  have e0 : Env0 X.prog X.w X.K X.mg X.base A X.stack s H := by
    have e := I.env0
    exact ⟨by rw [sb.fr]; exact e.frames, e.mod, e.bs, e.bsz, e.funs, e.frf, e.hok, e.bare⟩
  have hl := F.len _ _ _ _ hsp
  refine wpAny_call (codeAny_mono (F.run A X.stack s H ⟨us, []⟩ us vs _ E sb.room e0 (by
    have := hb s us I.kIn (by rw [List.append_nil, ← r2.length]; exact hl)
    simpa using this) r2 hsp) fun r s' hq => ?_)
  cases r with
  | error e => exact hx pins σ H s e s' I hq
  | ok fl =>
    cases fl with
    | ret w =>
      obtain ⟨z, H', I', rz, ez⟩ := I.after hq
      exact ⟨z, H', I', rz, ez⟩
    | next => exact False.elim hq
    | brk => exact False.elim hq
    | cont => exact False.elim hq
/-- what == (neg: !=) of two instances of the class asks -/
def rOwn (C : Addr) (sp : Sp) (E : XK) (neg : Bool) : R2 := fun x y H Q => ∃ a b dx dy fs gs, x = .ref a ∧ y = .ref b ∧ H a = some (.ins C dx fs) ∧ H b = some (.ins C dy gs) ∧ sp [.ref a, .ref b] H (fun v H' => ∃ r, v = .bl r ∧ Q (.bl (neg != r)) H') E
theorem op_eqOwn (F : FnOk X.prog X.w X.K X.mg X.base CX n f fd ps sp) (hr : Room n X.A) (hs : PySem.W.findIn X.K (.ref C) "__eq__" = some (some (.ref f))) (hf : PySem.W.isFn X.K (.ref f) = true) (hb : Binds X.K fd ps []) (hx : Passes CX X E) : OpR X (compareOp .Eq) (rOwn C sp E false) := by
  intro pins s σ H x y v u Q I rx ry hq
  obtain ⟨a, b, dx, dy, fs, gs, rfl, rfl, ha, hb', hsp⟩ := hq
  cases rx
  cases ry
  obtain ⟨mA, J, _⟩ := ins_get I.hok ha
  obtain ⟨mB, J', _⟩ := ins_get I.hok hb'
  obtain ⟨od, J, _⟩ := J.look
  obtain ⟨od', J', _⟩ := J'.look
  have sb : Sub X n X.A := ⟨hr, rfl⟩
  have r2 : Vals [V.ref a, V.ref b] [Value.ref a, Value.ref b] := .cons rfl (.cons rfl .nil)
  obtain ⟨m, hF⟩ := I.fr
  show wpAny (model X.prog X.w) X.A (richCompare .Eq _ _) (EP X pins σ Q) X.xe s
  refine PySem.W.cmp_K (op := .Eq) (tb := .ref C) sb.room.units0 hF I.ok.mod.kin J J'.type (by simp [PySem.W.notFirst]) hs hf ?_
  refine wpAny_mono (call_own F hb hx sb I r2 hsp) (fun v s' hv => ?_) fun _ _ e => e
  obtain ⟨z, H', I', rz, r, rfl, q⟩ := hv
  cases rz
  exact ⟨.bl r, H', I', rfl, by cases r <;> exact q⟩
theorem op_neOwn (F : FnOk X.prog X.w X.K X.mg X.base CX n f fd ps sp) (hr : Room (n + 1) X.A) (hs : PySem.W.findIn X.K (.ref C) "__eq__" = some (some (.ref f))) (hf : PySem.W.isFn X.K (.ref f) = true) (hm : PySem.W.mroIn X.K C (.type "object") = some true)
    (hne : PySem.W.findIn X.K (.ref C) "__ne__" = some (some (.builtin "object.__ne__"))) (hb : Binds X.K fd ps []) (hx : Passes CX X E) : OpR X (compareOp .NotEq) (rOwn C sp E true) := by
  intro pins s σ H x y v u Q I rx ry hq
  obtain ⟨a, b, dx, dy, fs, gs, rfl, rfl, ha, hb', hsp⟩ := hq
  cases rx
  cases ry
  obtain ⟨mA, J, _⟩ := ins_get I.hok ha
  obtain ⟨mB, J', _⟩ := ins_get I.hok hb'
  obtain ⟨od, J, _⟩ := J.look
  obtain ⟨od', J', _⟩ := J'.look
  have sb : Sub X (n + 1) X.A := ⟨hr, rfl⟩
  have r2 : Vals [V.ref a, V.ref b] [Value.ref a, Value.ref b] := .cons rfl (.cons rfl .nil)
  show wpAny (model X.prog X.w) X.A (richCompare .NotEq _ _) (EP X pins σ Q) X.xe s
  refine rc_ne (tb := .ref C) sb.in1.room.units0 I.kIn J J'.type (by simp [PySem.W.notFirst]) hm hs hf hne ?_
  refine wpAny_mono (call_own F hb hx sb.in1 I r2 hsp) (fun v s' hv => ?_) fun _ _ e => e
  obtain ⟨z, H', I', rz, r, rfl, q⟩ := hv
  cases rz
  exact ⟨r, rfl, .bl (!r), H', I', rfl, by cases r <;> exact q⟩
end
end GN

/-! == of counts -/
namespace QL
open PySem PySem.Spec PyProof.Rows L2 KA PH PM PA PB PC RM RN RC QE QF QG QH
abbrev sEQ : Stmt := inClass sClass 8
theorem scEQ : FnScope ["self", "other"] ["self", "other"] (defScope sEQ) := ⟨rfl, rfl, rfl, by decide +kernel, rfl, by decide +kernel, by decide +kernel⟩
theorem ev_ints : ∀ as bs : List Int, PyData.eqvAll (dInts as) (dInts bs) = decide (as = bs)
  | [], [] => by simp [dInts, PyData.eqvAll]
  | [], _ :: _ => by simp [dInts, PyData.eqvAll]
  | _ :: _, [] => by simp [dInts, PyData.eqvAll]
  | a :: as, b :: bs => by
    have ih := ev_ints as bs
    show (PyData.eqv (.int a) (.int b) && PyData.eqvAll (dInts as) (dInts bs)) = _
    rw [ih]
    simp [PyData.eqv, Bool.beq_eq_decide_eq]
theorem ev_pairs : ∀ rs ss : List (Int × Int), PyData.eqvAll (dPairs rs) (dPairs ss) = decide (rs = ss)
  | [], [] => by simp [dPairs, PyData.eqvAll]
  | [], _ :: _ => by simp [dPairs, PyData.eqvAll]
  | _ :: _, [] => by simp [dPairs, PyData.eqvAll]
  | (a, b) :: rs, (c, d) :: ss => by
    have ih := ev_pairs rs ss
    show (PyData.eqv (.tuple [.int a, .int b]) (.tuple [.int c, .int d]) && PyData.eqvAll (dPairs rs) (dPairs ss)) = _
    rw [ih]
    simp [PyData.eqv, PyData.eqvAll, Bool.beq_eq_decide_eq]
theorem shaped_prt (rs : List (Int × Int)) : SeqAt.shaped (.tuple (dPairs rs)) = true :=
  shaped_of (by simp only [PyData.canLay0, lay_pairs]) (by have := depth_pairs rs; simp only [PyData.depth]; omega)
section
variable {P : Program} {w : World} {K : PySem.W.Frag} {mg : Str → Option Value} {base : Heap}
def spEQ (C : Addr) : Sp := fun vs H Q _ => ∃ (x y : Addr) (ds es : List (Int × Int)) (rs ts : List Int), vs = [.ref x, .ref y] ∧ CountAt H C x ds rs ∧ CountAt H C y es ts ∧ Q (.bl (decide (ds = es) && decide (rs = ts))) H
theorem ok_EQ {C f : Addr} {fd : FuncData} {k : Nat} (F : Fun K "__eq__" "Count.__eq__" sEQ f fd) (T : Cnt K C) (S : C8.InsC K C) (gC : mg "Count" = some (.ref C)) (mi : mg "isinstance" = none) : FnOk P w K mg base CX0 (k + 1) f fd ["self", "other"] (spEQ C) := by
  refine F.ok scEQ (fun vs H Q E h => ?_) (fun cdv A outer s H vs Q E hr h => ?_)
  · obtain ⟨x, y, ds, es, rs, ts, rfl, _⟩ := h
    rfl
  · obtain ⟨x, y, ds, es, rs, ts, rfl, ⟨dx, t1, t2, ys, h1, h2, h3, h4⟩, ⟨dy, u1, u2, zs, g1, g2, g3, g4⟩, hq⟩ := h
    refine ⟨_, pss_one (ps_ret (pe_and (pe_callB (C8.call_isC S) (by rfl) mi (by decide +kernel) (pa_cons (pv 1) (pa_cons (pe_glob (v := .ref C) (by rfl) gC rfl) pa_nil)))
      (pe_and (pe_cmpR (op_eqD hr.units) (pe_fld (pv 0) rfl) (pe_fld (pv 1) rfl) (nomark _)) (pe_one (pe_cmpR (op_eqD hr.units) (pe_fld (pv 0) rfl) (pe_fld (pv 1) rfl) (nomark _)))))), ?_⟩
    have e1 := ev_pairs ds es
    have e2 := ev_ints rs ts
    refine ⟨.ref y, rfl, y, dy, _, rfl, g1, true, rfl, iteT ?_⟩
    refine ⟨.ref x, rfl, x, C, dx, _, .ref t1, rfl, h1, T.cl, T.nC, rfl, .ref y, rfl, y, C, dy, _, .ref u1, rfl, g1, T.cl, T.nC, rfl, .tuple (dPairs ds), .tuple (dPairs es), .tup (SqT.of h2) (dp_pairs h3), .tup (SqT.of g2) (dp_pairs g3), shaped_prt _, shaped_prt _, _, rfl, ?_⟩
    rw [show PyData.eqv (.tuple (dPairs ds)) (.tuple (dPairs es)) = decide (ds = es) from by rw [← e1]; rfl]
    cases e : decide (ds = es) with
    | false =>
      rw [e] at hq
      exact iteF hq
    | true =>
      rw [e] at hq
      refine iteT ⟨.ref x, rfl, x, C, dx, _, .ref t2, rfl, h1, T.cl, T.nR, rfl, .ref y, rfl, y, C, dy, _, .ref u2, rfl, g1, T.cl, T.nR, rfl, .tuple (dInts rs), .tuple (dInts ts), .tup (SqT.of h4) (dp_ints _), .tup (SqT.of g4) (dp_ints _), shaped_tup _, shaped_tup _, ?_⟩
      rw [show PyData.eqv (.tuple (dInts rs)) (.tuple (dInts ts)) = decide (rs = ts) from by rw [← e2]; rfl]
      exact hq
end
end QL

/-! the half-cycles of two loads are the same exactly if their changes are -/
namespace RE
open KM PM RM RN RC
/-- of a load: its half-cycles, sorted -/
structure Hc (ns : List Int) (es : List (Int × Int)) : Prop where
  ex : ∃ cs ds rs, Run (tp ns) cs rs ∧ NF rs ∧ ds.Perm cs ∧ es.Perm (ds ++ ds ++ sw rs)
  srt : es.Pairwise Le
theorem Hc.chg {ns : List Int} {es : List (Int × Int)} (h : Hc ns es) {lo hi : Int} (h0 : lo < hi) : chg ns lo hi = nh lo hi es := by
  obtain ⟨cs, ds, rs, run, nf, p1, p2⟩ := h.ex
  rw [chg_count h0 run nf, nh_perm p2, nh_app, nh_app, nh_perm p1]
  omega
/-- every half-cycle lies within the readings -/
def InR (u v : Int) (r : Int × Int) : Prop := u ≤ r.1 ∧ r.1 < r.2 ∧ r.2 ≤ v
theorem rg_in {u v a b : Int} (ha : u ≤ a ∧ a ≤ v) (hb : u ≤ b ∧ b ≤ v) (ne : a ≠ b) : InR u v (rg a b) := by
  rcases (show a < b ∨ b < a by omega) with h | h
  · rw [rg_up h]; exact ⟨ha.1, h, hb.2⟩
  · rw [rg_down h]; exact ⟨hb.1, h, ha.2⟩
theorem step_in {u v : Int} {p q : List Int} {c : Int × Int} (h : Step p c q) : ZZ p → (∀ x ∈ p, u ≤ x ∧ x ≤ v) → InR u v c ∧ ∀ x ∈ q, u ≤ x ∧ x ≤ v := by
  induction h with
  | @here a b c d post t =>
    intro z hb
    have z1 := z.1
    refine ⟨rg_in (hb b (by simp)) (hb c (by simp)) (by omega), fun x hx => ?_⟩
    rcases List.mem_cons.mp hx with e | hx
    · exact hb x (by simp [e])
    · rcases List.mem_cons.mp hx with e | hx
      · exact hb x (by simp [e])
      · exact hb x (by simp [hx])
  | @there x p q cy s ih =>
    intro z hb
    obtain ⟨h1, h2⟩ := ih z.tail fun y hy => hb y (List.mem_cons_of_mem _ hy)
    refine ⟨h1, fun y hy => ?_⟩
    rcases List.mem_cons.mp hy with e | hy
    · exact hb y (by simp [e])
    · exact h2 y hy
theorem run_in {u v : Int} {p q : List Int} {cs : List (Int × Int)} (h : Run p cs q) : ZZ p → (∀ x ∈ p, u ≤ x ∧ x ≤ v) → (∀ c ∈ cs, InR u v c) ∧ ∀ x ∈ q, u ≤ x ∧ x ≤ v := by
  induction h with
  | nil p => exact fun _ hb => ⟨fun _ z => (List.not_mem_nil z).elim, hb⟩
  | cons s _ ih =>
    intro z hb
    obtain ⟨h1, h2⟩ := step_in s z hb
    obtain ⟨h3, h4⟩ := ih (ZZ.step s z) h2
    refine ⟨fun c hc => ?_, h4⟩
    rcases List.mem_cons.mp hc with e | hc
    · rw [e]; exact h1
    · exact h3 c hc
theorem sw_in {u v : Int} : ∀ {ps : List Int}, ZZ ps → (∀ x ∈ ps, u ≤ x ∧ x ≤ v) → ∀ r ∈ sw ps, InR u v r
  | [], _, _, r, h => by simp [sw] at h
  | [_], _, _, r, h => by simp [sw] at h
  | x :: y :: l, z, hb, r, h => by
    rcases List.mem_cons.mp (show r ∈ rg x y :: sw (y :: l) from h) with e | h
    · rw [e]; exact rg_in (hb x (by simp)) (hb y (by simp)) (zz_cons z)
    · exact sw_in z.tail (fun w hw => hb w (List.mem_cons_of_mem _ hw)) r h
theorem Hc.inr {u v : Int} {ns : List Int} {es : List (Int × Int)} (h : Hc ns es) (hb : ∀ x ∈ ns, u ≤ x ∧ x ≤ v) : ∀ r ∈ es, InR u v r := by
  obtain ⟨cs, ds, rs, run, nf, p1, p2⟩ := h.ex
  obtain ⟨h1, h2⟩ := run_in run (tp_zz ns) fun x hx => hb x (tp_mem hx)
  intro r hr
  rcases List.mem_append.mp (p2.mem_iff.mp hr) with z | z
  · rcases List.mem_append.mp z with z | z
    · exact h1 r (p1.mem_iff.mp z)
    · exact h1 r (p1.mem_iff.mp z)
  · exact sw_in (run.zz (tp_zz ns)) h2 r z
/-- two loads within u..v -/
theorem same_iff {u v : Int} {ns ms : List Int} {es fs : List (Int × Int)} (h : Hc ns es) (g : Hc ms fs) (hb : ∀ x ∈ ns, u ≤ x ∧ x ≤ v) (gb : ∀ x ∈ ms, u ≤ x ∧ x ≤ v) :
    es = fs ↔ ∀ lo hi : Int, u - 1 ≤ lo → lo < hi → hi ≤ v + 1 → KM.chg ns lo hi = KM.chg ms lo hi := by
  constructor
  · intro e lo hi _ h0 _
    rw [h.chg h0, g.chg h0, e]
  · intro e
    refine sorted_same (List.perm_iff_count.mpr fun r => ?_) h.srt g.srt
    obtain ⟨lo, hi⟩ := r
    by_cases z : u ≤ lo ∧ lo < hi ∧ hi ≤ v
    · have j1 := just (lo := lo) (hi := hi) es
      have j2 := just (lo := lo) (hi := hi) fs
      have k : ∀ a b : Int, u - 1 ≤ a → a < b → b ≤ v + 1 → nh a b es = nh a b fs := fun a b h1 h2 h3 => by rw [← h.chg h2, ← g.chg h2, e a b h1 h2 h3]
      have k1 := k lo hi (by omega) (by omega) (by omega)
      have k2 := k (lo - 1) hi (by omega) (by omega) (by omega)
      have k3 := k lo (hi + 1) (by omega) (by omega) (by omega)
      have k4 := k (lo - 1) (hi + 1) (by omega) (by omega) (by omega)
      omega
    · rw [List.count_eq_zero.mpr fun m => z (show u ≤ lo ∧ lo < hi ∧ hi ≤ v from h.inr hb (lo, hi) m), List.count_eq_zero.mpr fun m => z (show u ≤ lo ∧ lo < hi ∧ hi ≤ v from g.inr gb (lo, hi) m)]
end RE

/-! loads turned round, mapped, repeated, thinned: mathematics -/
namespace K9
open KM PM RM RN RC RE
/-! ### turning points of a load turned round -/
theorem tq_same : ∀ (pre : List Int) (p q x : Int) (post : List Int), tq p q (pre ++ x :: x :: post) = tq p q (pre ++ x :: post)
  | [], p, q, x, post => by
    show tq p q (x :: x :: post) = tq p q (x :: post)
    simp only [tq]
    by_cases e : q = x
    · subst e
      simp only [if_true]
    · rw [if_neg e, if_neg e]
      simp only [if_true]
  | y :: pre, p, q, x, post => by
    show tq p q (y :: (pre ++ x :: x :: post)) = tq p q (y :: (pre ++ x :: post))
    simp only [tq, tq_same pre]
theorem tq_btw0 {p b a r : Int} (post : List Int) (h : Btw a b r) : tq p b (a :: r :: post) = tq p b (r :: post) := by
  have h1 : ¬ b = a := by omega
  have h2 : ¬ b = r := by omega
  have h3 : ¬ a = r := by omega
  simp only [tq]
  rw [if_neg h1, if_neg h2]
  by_cases c : Btw b p a
  · rw [if_pos c, if_neg h3, if_pos (show Btw a p r by omega), if_pos (show Btw b p r by omega)]
  · rw [if_neg c, if_neg (show ¬ Btw b p r by omega)]
    rw [if_neg h3, if_pos h]
theorem tq_btw : ∀ (pre : List Int) (p q b a r : Int) (post : List Int), Btw a b r → tq p q (pre ++ b :: a :: r :: post) = tq p q (pre ++ b :: r :: post)
  | [], p, q, b, a, r, post, h => by
    show tq p q (b :: a :: r :: post) = tq p q (b :: r :: post)
    have k : ∀ s, tq s b (a :: r :: post) = tq s b (r :: post) := fun s => tq_btw0 post h
    rw [tq, k, k]
    rw [tq.eq_2 p q b (r :: post)]
    by_cases e : q = b
    · rw [if_pos e, if_pos e]
      subst e
      exact k p
    · rw [if_neg e, if_neg e]
  | y :: pre, p, q, b, a, r, post, h => by
    show tq p q (y :: (pre ++ b :: a :: r :: post)) = tq p q (y :: (pre ++ b :: r :: post))
    simp only [tq, tq_btw pre _ _ b a r post h]
theorem ts_same : ∀ (pre : List Int) (q x : Int) (post : List Int), ts q (pre ++ x :: x :: post) = ts q (pre ++ x :: post)
  | [], q, x, post => by
    show ts q (x :: x :: post) = ts q (x :: post)
    simp only [ts]
    by_cases e : q = x
    · subst e
      simp only [if_true]
    · rw [if_neg e, if_neg e]
      simp only [tq, if_true]
  | y :: pre, q, x, post => by
    show ts q (y :: (pre ++ x :: x :: post)) = ts q (y :: (pre ++ x :: post))
    simp only [ts, ts_same pre, tq_same pre]
theorem ts_btw0 {b a r : Int} (post : List Int) (h : Btw a b r) : ts b (a :: r :: post) = ts b (r :: post) := by
  simp only [ts]
  rw [if_neg (show ¬ b = a by omega), if_neg (show ¬ b = r by omega)]
  simp only [tq]
  rw [if_neg (show ¬ a = r by omega), if_pos h]
theorem ts_btw : ∀ (pre : List Int) (q b a r : Int) (post : List Int), Btw a b r → ts q (pre ++ b :: a :: r :: post) = ts q (pre ++ b :: r :: post)
  | [], q, b, a, r, post, h => by
    show ts q (b :: a :: r :: post) = ts q (b :: r :: post)
    rw [ts, tq_btw0 post h]
    rw [ts.eq_2 q b (r :: post)]
    by_cases e : q = b
    · rw [if_pos e, if_pos e]
      subst e
      exact ts_btw0 post h
    · rw [if_neg e, if_neg e]
  | y :: pre, q, b, a, r, post, h => by
    show ts q (y :: (pre ++ b :: a :: r :: post)) = ts q (y :: (pre ++ b :: r :: post))
    simp only [ts, ts_btw pre _ b a r post h, tq_btw pre _ _ b a r post h]
theorem tp_same (pre : List Int) (x : Int) (post : List Int) : tp (pre ++ x :: x :: post) = tp (pre ++ x :: post) := by
  cases pre with
  | nil =>
    show ts x (x :: post) = ts x post
    simp only [ts, if_true]
  | cons y pre => exact ts_same pre y x post
theorem tp_btw (pre : List Int) {b a r : Int} (post : List Int) (h : Btw a b r) : tp (pre ++ b :: a :: r :: post) = tp (pre ++ b :: r :: post) := by
  cases pre with
  | nil => exact ts_btw0 post h
  | cons y pre => exact ts_btw pre y b a r post h
/-- a reading left out that is no turning point -/
inductive Red : List Int → List Int → Prop
  | nil (l : List Int) : Red l l
  | same (pre : List Int) (x : Int) (post : List Int) {m : List Int} : Red (pre ++ x :: post) m → Red (pre ++ x :: x :: post) m
  | btw (pre : List Int) {b a r : Int} (post : List Int) {m : List Int} : Btw a b r → Red (pre ++ b :: r :: post) m → Red (pre ++ b :: a :: r :: post) m
theorem Red.tp {l m : List Int} (h : Red l m) : tp l = tp m := by
  induction h with
  | nil l => rfl
  | same pre x post _ ih => rw [tp_same, ih]
  | btw pre post hb _ ih => rw [tp_btw pre post hb, ih]
theorem Red.cons {l m : List Int} (h : Red l m) (y : Int) : Red (y :: l) (y :: m) := by
  induction h with
  | nil l => exact .nil _
  | same pre x post _ ih => exact .same (y :: pre) x post ih
  | btw pre post hb _ ih => exact .btw (y :: pre) post hb ih
theorem Red.trans {l m n : List Int} (h : Red l m) (g : Red m n) : Red l n := by
  induction h with
  | nil l => exact g
  | same pre x post _ ih => exact .same pre x post (ih g)
  | btw pre post hb _ ih => exact .btw pre post hb (ih g)
theorem Red.rev {l m : List Int} (h : Red l m) : Red l.reverse m.reverse := by
  induction h with
  | nil l => exact .nil _
  | same pre x post _ ih =>
    have e1 : (pre ++ x :: x :: post).reverse = post.reverse ++ x :: x :: pre.reverse := by simp
    have e2 : (pre ++ x :: post).reverse = post.reverse ++ x :: pre.reverse := by simp
    rw [e1]
    rw [e2] at ih
    exact .same _ x _ ih
  | @btw pre b a r post m hb _ ih =>
    have e1 : (pre ++ b :: a :: r :: post).reverse = post.reverse ++ r :: a :: b :: pre.reverse := by simp
    have e2 : (pre ++ b :: r :: post).reverse = post.reverse ++ r :: b :: pre.reverse := by simp
    rw [e1]
    rw [e2] at ih
    exact .btw _ _ (by omega) ih
theorem red_tq : ∀ (l : List Int) (b a : Int), Red (b :: a :: l) (b :: tq b a l)
  | [], b, a => .nil _
  | r :: l, b, a => by
    simp only [tq]
    by_cases e : a = r
    · rw [if_pos e]
      subst e
      exact .same [b] a l (red_tq l b a)
    · rw [if_neg e]
      by_cases c : Btw a b r
      · rw [if_pos c]
        exact .btw [] l c (red_tq l b r)
      · rw [if_neg c]
        exact (red_tq l a r).cons b
theorem red_ts : ∀ (l : List Int) (a : Int), Red (a :: l) (ts a l)
  | [], a => .nil _
  | r :: l, a => by
    simp only [ts]
    by_cases e : a = r
    · rw [if_pos e]
      subst e
      exact .same [] a l (red_ts l a)
    · rw [if_neg e]
      exact red_tq l a r
theorem red_tp (ns : List Int) : Red ns (tp ns) := by
  cases ns with
  | nil => exact .nil _
  | cons a l => exact red_ts l a
theorem zz_snoc : ∀ {l : List Int} {a b c : Int}, ZZ (l ++ [a, b]) → ((a < b ∧ c < b) ∨ (b < a ∧ b < c)) → ZZ (l ++ [a, b, c])
  | [], a, b, c, _, h => ⟨h, by show b ≠ c; omega⟩
  | [x], a, b, c, z, h => ⟨z.1, h, by show b ≠ c; omega⟩
  | [x, y], a, b, c, z, h => ⟨z.1, z.2.1, h, by show b ≠ c; omega⟩
  | x :: y :: w :: l, a, b, c, z, h => ⟨z.1, zz_snoc (l := y :: w :: l) z.2 h⟩
theorem zz_rev : ∀ {l : List Int}, ZZ l → ZZ l.reverse
  | [], _ => trivial
  | [x], _ => trivial
  | [x, y], z => fun e => z e.symm
  | x :: y :: w :: l, z => by
    have ih := zz_rev (l := y :: w :: l) z.2
    have e : (x :: y :: w :: l).reverse = l.reverse ++ [w, y, x] := by simp
    have e2 : (y :: w :: l).reverse = l.reverse ++ [w, y] := by simp
    rw [e]
    rw [e2] at ih
    exact zz_snoc ih (by have := z.1; omega)
theorem tp_rev (ns : List Int) : tp ns.reverse = (tp ns).reverse := by
  rw [(red_tp ns).rev.tp, zz_tp (zz_rev (tp_zz ns))]
theorem rg_comm (a b : Int) : rg a b = rg b a := by unfold rg; rw [Prod.mk.injEq]; constructor <;> split <;> split <;> omega
theorem taken_rev {a b c d : Int} (h : Taken a b c d) : Taken d c b a := by
  unfold Taken at *
  rw [rg_comm d c, rg_comm c b, rg_comm b a]
  exact ⟨h.2, h.1⟩
theorem step_rev {p q : List Int} {c : Int × Int} (h : Step p c q) : Step p.reverse c q.reverse := by
  induction h with
  | @here a b c d post t =>
    have e1 : (a :: b :: c :: d :: post).reverse = post.reverse ++ [d, c, b, a] := by simp
    have e2 : (a :: d :: post).reverse = post.reverse ++ [d, a] := by simp
    rw [e1, e2, rg_comm b c]
    exact (Step.here (post := []) (taken_rev t)).prefix _
  | @there x p q cy s ih =>
    rw [List.reverse_cons, List.reverse_cons]
    exact ih.suffix [x]
theorem run_rev {p q : List Int} {cs : List (Int × Int)} (h : Run p cs q) : Run p.reverse cs q.reverse := by
  induction h with
  | nil p => exact .nil _
  | cons s _ ih => exact .cons (step_rev s) ih
theorem nf_rev {p : List Int} (h : NF p) : NF p.reverse := fun c q s => by
  have := step_rev s
  rw [List.reverse_reverse] at this
  exact h _ _ this
/-- one count, its cycles sorted -/
structure Cn (ns : List Int) (ds : List (Int × Int)) (rs : List Int) : Prop where
  ex : ∃ cs, Run (tp ns) cs rs ∧ ds.Perm cs
  nf : NF rs
  srt : ds.Pairwise Le
theorem cn_one {ns ms : List Int} {ds es : List (Int × Int)} {rs ss : List Int} (e : tp ns = tp ms) (h : Cn ns ds rs) (g : Cn ms es ss) : ds = es ∧ rs = ss := by
  obtain ⟨cs, r1, p1⟩ := h.ex
  obtain ⟨cs2, r2, p2⟩ := g.ex
  rw [e] at r1
  obtain ⟨e1, e2⟩ := one_count (tp_zz ms) r1 h.nf r2 g.nf
  exact ⟨sorted_same (p1.trans (e2.trans p2.symm)) h.srt g.srt, e1⟩
theorem cn_rev {ns : List Int} {ds es : List (Int × Int)} {rs ss : List Int} (h : Cn ns ds rs) (g : Cn ns.reverse es ss) : es = ds ∧ ss = rs.reverse := by
  obtain ⟨cs, r1, p1⟩ := h.ex
  obtain ⟨cs2, r2, p2⟩ := g.ex
  have r3 := run_rev r1
  rw [← tp_rev] at r3
  obtain ⟨e1, e2⟩ := one_count (tp_zz _) r2 g.nf r3 (nf_rev h.nf)
  exact ⟨sorted_same (p2.trans (e2.trans p1.symm)) g.srt h.srt, e1⟩
/-! ### a load moved, stretched, negated -/
def Str (f : Int → Int) : Prop := (∀ a b, a < b ↔ f a < f b) ∨ (∀ a b, a < b ↔ f b < f a)
theorem str_eq {f : Int → Int} (h : Str f) (a b : Int) : a = b ↔ f a = f b := by
  rcases h with h | h
  · have h1 := h a b
    have h2 := h b a
    omega
  · have h1 := h a b
    have h2 := h b a
    omega
theorem str_btw {f : Int → Int} (h : Str f) (r b a : Int) : Btw r b a ↔ Btw (f r) (f b) (f a) := by
  unfold Btw
  rcases h with h | h
  · rw [h b r, h r a, h a r, h r b]
  · rw [h b r, h r a, h a r, h r b]
    omega
theorem tq_map {f : Int → Int} (h : Str f) : ∀ (l : List Int) (b a : Int), tq (f b) (f a) (l.map f) = (tq b a l).map f
  | [], _, _ => rfl
  | r :: l, b, a => by
    simp only [tq, List.map_cons]
    by_cases e : a = r
    · rw [if_pos e, if_pos ((str_eq h a r).mp e)]
      exact tq_map h l b a
    · rw [if_neg e, if_neg (fun z => e ((str_eq h a r).mpr z))]
      by_cases c : Btw a b r
      · rw [if_pos c, if_pos ((str_btw h a b r).mp c)]
        exact tq_map h l b r
      · rw [if_neg c, if_neg (fun z => c ((str_btw h a b r).mpr z)), List.map_cons, tq_map h l a r]
theorem ts_map {f : Int → Int} (h : Str f) : ∀ (l : List Int) (a : Int), ts (f a) (l.map f) = (ts a l).map f
  | [], _ => rfl
  | r :: l, a => by
    simp only [ts, List.map_cons]
    by_cases e : a = r
    · rw [if_pos e, if_pos ((str_eq h a r).mp e)]
      exact ts_map h l a
    · rw [if_neg e, if_neg (fun z => e ((str_eq h a r).mpr z)), List.map_cons, tq_map h l a r]
theorem tp_map {f : Int → Int} (h : Str f) (ns : List Int) : tp (ns.map f) = (tp ns).map f := by
  cases ns with
  | nil => rfl
  | cons a l => exact ts_map h l a
def mp (f : Int → Int) (r : Int × Int) : Int × Int := rg (f r.1) (f r.2)
theorem rg_map {f : Int → Int} (h : Str f) (a b : Int) : rg (f a) (f b) = mp f (rg a b) := by
  rcases Int.lt_trichotomy a b with z | z | z
  · unfold mp; rw [rg_up z]
  · subst z
    unfold mp rg
    simp
  · unfold mp; rw [rg_down z, rg_comm]
theorem taken_map {f : Int → Int} (h : Str f) {a b c d : Int} (t : Taken a b c d) : Taken (f a) (f b) (f c) (f d) := by
  unfold Taken at *
  rw [rg_map h a b, rg_map h b c, rg_map h c d]
  have key : ∀ u v x y : Int, u ≤ v → x ≤ y → u ≤ x → y ≤ v → ((mp f (u, v)).1 ≤ (mp f (x, y)).1 ∧ (mp f (x, y)).2 ≤ (mp f (u, v)).2) := by
    intro u v x y h1 h2 h3 h4
    have m : ∀ p q, p ≤ q → (f p ≤ f q ∨ f q ≤ f p) := fun p q _ => Int.le_total _ _
    unfold mp rg
    rcases h with h | h
    · have a1 := h v u; have a2 := h y x; have a3 := h x u; have a4 := h v y
      dsimp only
      repeat' split
      all_goals omega
    · have a1 := h v u; have a2 := h y x; have a3 := h x u; have a4 := h v y
      have a5 := h u v; have a6 := h x y; have a7 := h u x; have a8 := h y v
      dsimp only
      repeat' split
      all_goals omega
  have le : ∀ p q : Int, (rg p q).1 ≤ (rg p q).2 := by
    intro p q
    unfold rg
    dsimp only
    split <;> split <;> omega
  exact ⟨key _ _ _ _ (le a b) (le b c) t.1.1 t.1.2, key _ _ _ _ (le c d) (le b c) t.2.1 t.2.2⟩
theorem taken_back {f : Int → Int} (h : Str f) {a b c d : Int} (t : Taken (f a) (f b) (f c) (f d)) : Taken a b c d := by
  have key : ∀ p q x y : Int, (rg (f p) (f q)).1 ≤ (rg (f x) (f y)).1 ∧ (rg (f x) (f y)).2 ≤ (rg (f p) (f q)).2 → (rg p q).1 ≤ (rg x y).1 ∧ (rg x y).2 ≤ (rg p q).2 := by
    intro p q x y
    unfold rg
    rcases h with h | h
    · have a1 := h p q; have a2 := h q p; have a3 := h x y; have a4 := h y x
      have b1 := h p x; have b2 := h x p; have b3 := h p y; have b4 := h y p
      have c1 := h q x; have c2 := h x q; have c3 := h q y; have c4 := h y q
      dsimp only
      repeat' split
      all_goals omega
    · have a1 := h p q; have a2 := h q p; have a3 := h x y; have a4 := h y x
      have b1 := h p x; have b2 := h x p; have b3 := h p y; have b4 := h y p
      have c1 := h q x; have c2 := h x q; have c3 := h q y; have c4 := h y q
      dsimp only
      repeat' split
      all_goals omega
  exact ⟨key _ _ _ _ t.1, key _ _ _ _ t.2⟩
theorem step_map {f : Int → Int} (h : Str f) {p q : List Int} {c : Int × Int} (s : Step p c q) : Step (p.map f) (mp f c) (q.map f) := by
  induction s with
  | @here a b c d post t =>
    rw [← rg_map h]
    exact .here (taken_map h t)
  | there _ ih => exact .there ih
theorem run_map {f : Int → Int} (h : Str f) {p q : List Int} {cs : List (Int × Int)} (r : Run p cs q) : Run (p.map f) (cs.map (mp f)) (q.map f) := by
  induction r with
  | nil p => exact .nil _
  | cons s _ ih => exact .cons (step_map h s) ih
theorem step_back {f : Int → Int} (h : Str f) {p' q : List Int} {c : Int × Int} (s : Step p' c q) : ∀ {p : List Int}, p' = p.map f → ∃ c' q', Step p c' q' := by
  induction s with
  | @here a b c d post t =>
    intro p e
    match p, e with
    | a' :: b' :: c' :: d' :: post', e =>
      simp only [List.map_cons, List.cons.injEq] at e
      obtain ⟨e1, e2, e3, e4, _⟩ := e
      subst e1 e2 e3 e4
      exact ⟨_, _, .here (taken_back h t)⟩
    | [], e => simp at e
    | [_], e => simp at e
    | [_, _], e => simp at e
    | [_, _, _], e => simp at e
  | @there x p1 q1 cy s ih =>
    intro p e
    match p, e with
    | x' :: p', e =>
      rw [List.map_cons] at e
      obtain ⟨c', q', s'⟩ := ih (List.cons.inj e).2
      exact ⟨c', _, .there s'⟩
    | [], e => simp at e
theorem nf_map {f : Int → Int} (h : Str f) {p : List Int} (n : NF p) : NF (p.map f) := fun c q s => by
  obtain ⟨c', q', s'⟩ := step_back h s rfl
  exact n _ _ s'
theorem cn_map {f : Int → Int} (h : Str f) {ns : List Int} {ds es fs : List (Int × Int)} {rs ss : List Int} (g : Cn ns ds rs) (k : Cn (ns.map f) es ss) (p : fs.Perm (ds.map (mp f))) (srt : fs.Pairwise Le) : es = fs ∧ ss = rs.map f := by
  obtain ⟨cs, r1, p1⟩ := g.ex
  obtain ⟨cs2, r2, p2⟩ := k.ex
  have r3 := run_map h r1
  rw [← tp_map h] at r3
  obtain ⟨e1, e2⟩ := one_count (tp_zz _) r2 k.nf r3 (nf_map h g.nf)
  exact ⟨sorted_same (p2.trans (e2.trans ((p1.symm.map _).trans p.symm))) k.srt srt, e1⟩
theorem str_aff {s t : Int} (h : s ≠ 0) : Str fun x => x * s + t := by
  rcases (show 0 < s ∨ s < 0 by omega) with z | z
  · refine .inl fun a b => ?_
    have := Int.mul_lt_mul_right (a := s) (b := a) (c := b) z
    dsimp only
    omega
  · refine .inr fun a b => ?_
    have := Int.mul_lt_mul_right (a := -s) (b := a) (c := b) (by omega)
    rw [Int.mul_neg, Int.mul_neg] at this
    dsimp only
    omega
/-! ### readings repeated -/
theorem tp_rep : ∀ (m : Nat) (pre : List Int) (x : Int), tp (pre ++ List.replicate (m + 1) x) = tp (pre ++ [x])
  | 0, pre, x => rfl
  | m + 1, pre, x => by
    have := tp_same pre x (List.replicate m x)
    rw [show pre ++ List.replicate (m + 1 + 1) x = pre ++ x :: x :: List.replicate m x from rfl, this]
    exact tp_rep m pre x
theorem red_app {l m : List Int} (n : List Int) (h : Red l m) : Red (l ++ n) (m ++ n) := by
  induction h with
  | nil l => exact .nil _
  | same pre x post _ ih =>
    rw [List.append_assoc] at ih ⊢
    exact .same pre x _ ih
  | btw pre post hb _ ih =>
    rw [List.append_assoc] at ih ⊢
    exact .btw pre _ hb ih
/-- what the beginning is, is of no matter if its turning points are the same -/
theorem tp_pre {l m : List Int} (h : tp l = tp m) (n : List Int) : tp (l ++ n) = tp (m ++ n) := by
  rw [(red_app n (red_tp l)).tp, (red_app n (red_tp m)).tp, h]
theorem tp_twice {l m : List Int} (h : tp l = tp m) (k : Nat) (x : Int) : tp (l ++ List.replicate (k + 1) x) = tp (m ++ [x]) := by
  rw [tp_rep, tp_pre h]
/-! ### an upper point lowered -/
theorem cl_sub {lo hi : Int} {l m : List Int} (h : l.Sublist m) (o : Option Bool) : cl lo hi o l ≤ cl lo hi o m := by
  unfold cl
  have h2 : (lets lo hi l).Sublist (lets lo hi m) := h.filterMap _
  cases o with
  | none => exact cnt_mono h2
  | some b => exact cf_mono h2 b
/-- v lies between x and n -/
def Mid (x v n : Int) : Prop := (x ≤ v ∧ v ≤ n) ∨ (n ≤ v ∧ v ≤ x)
theorem mid_let {lo hi x v n : Int} {b : Bool} (h0 : lo < hi) (h : Mid x v n) (e1 : lett lo hi v = some b) (e2 : lett lo hi x ≠ some b) : lett lo hi n = some b := by
  unfold Mid at h
  rcases lett3 lo hi v h0 with ⟨z, e⟩ | ⟨z, e⟩ | ⟨_, _, e⟩ <;> rw [e] at e1 <;> cases e1
  · rcases lett3 lo hi x h0 with ⟨y, e⟩ | ⟨y, e⟩ | ⟨y, y2, e⟩
    · exact absurd e e2
    · exact lett_lo (by omega)
    · exact lett_lo (by omega)
  · rcases lett3 lo hi x h0 with ⟨y, e⟩ | ⟨y, e⟩ | ⟨y, y2, e⟩
    · exact lett_hi h0 (by omega)
    · exact absurd e e2
    · exact lett_hi h0 (by omega)
theorem cl_put {lo hi x v : Int} (h0 : lo < hi) (r : List Int) (hr : ∀ c, r.head? = some c → Mid x v c) (o : Option Bool) (ho : ∀ b, lett lo hi v = some b → lett lo hi x ≠ some b → o = none ∨ o = some b) : cl lo hi o (v :: r) ≤ cl lo hi o (x :: r) := by
  by_cases e : lett lo hi v = lett lo hi x
  · rw [cl_cons, cl_cons, e]
    exact Nat.le_refl _
  · cases ev : lett lo hi v with
    | none =>
      rw [cl_cons, ev]
      exact cl_sub (List.sublist_cons_self _ _) o
    | some b =>
      have ex : lett lo hi x ≠ some b := fun z => e (ev.trans z.symm)
      have d0 : d2 o b = 0 := by
        rcases ho b ev ex with z | z
        · rw [z]; rfl
        · rw [z]; simp [d2]
      rw [cl_cons, ev]
      show d2 o b + cl lo hi (some b) r ≤ _
      rw [d0, Nat.zero_add]
      cases r with
      | nil => rw [cl_nil]; exact Nat.zero_le _
      | cons c r =>
        have ec := mid_let h0 (hr c rfl) ev ex
        have k : cl lo hi o (c :: r) ≤ cl lo hi o (x :: c :: r) := cl_sub (List.sublist_cons_self _ _) o
        refine Nat.le_trans ?_ k
        rw [cl_cons, cl_cons, ec]
        show d2 (some b) b + _ ≤ d2 o b + _
        rw [d0]
        simp [d2]
theorem cl_put_at {lo hi x v : Int} (h0 : lo < hi) (r : List Int) (hr : ∀ c, r.head? = some c → Mid x v c) : ∀ (pre : List Int) (o : Option Bool), (∀ a, pre.getLast? = some a → Mid x v a) → (pre = [] → ∀ b, lett lo hi v = some b → lett lo hi x ≠ some b → o = none ∨ o = some b) → cl lo hi o (pre ++ v :: r) ≤ cl lo hi o (pre ++ x :: r)
  | [], o, _, ho => cl_put h0 r hr o (ho rfl)
  | p :: pre, o, hp, _ => by
    have key : ∀ o', (pre = [] → ∀ b, lett lo hi v = some b → lett lo hi x ≠ some b → o' = none ∨ o' = some b) → cl lo hi o' (pre ++ v :: r) ≤ cl lo hi o' (pre ++ x :: r) := fun o' h' =>
      cl_put_at h0 r hr pre o' (fun a ha => hp a (by
        cases pre with
        | nil => cases ha
        | cons q pre => rw [List.getLast?_cons_cons]; exact ha)) h'
    show cl lo hi o (p :: (pre ++ v :: r)) ≤ cl lo hi o (p :: (pre ++ x :: r))
    rw [cl_cons, cl_cons]
    cases e : lett lo hi p with
    | none =>
      refine key o fun e0 b h1 h2 => ?_
      subst e0
      have := mid_let h0 (hp p rfl) h1 h2
      rw [e] at this
      cases this
    | some b' =>
      refine Nat.add_le_add_left (key _ fun e0 b h1 h2 => .inr ?_) _
      subst e0
      have := mid_let h0 (hp p rfl) h1 h2
      rw [e] at this
      exact this
theorem chg_put_at {lo hi x v : Int} (h0 : lo < hi) {pre r : List Int} (hp : ∀ a, pre.getLast? = some a → Mid x v a) (hr : ∀ c, r.head? = some c → Mid x v c) : chg (pre ++ v :: r) lo hi ≤ chg (pre ++ x :: r) lo hi :=
  cl_put_at h0 r hr pre none hp fun _ _ _ _ => .inl rfl
theorem chg_tp {lo hi : Int} (h0 : lo < hi) (ns : List Int) : chg (tp ns) lo hi = chg ns lo hi := cl_tp h0 ns
theorem zz_three : ∀ {ps : List Int} {j : Nat} {a x c : Int}, ZZ ps → ps[j]? = some a → ps[j + 1]? = some x → ps[j + 2]? = some c → (a < x ∧ c < x) ∨ (x < a ∧ x < c)
  | p :: q :: r :: l, 0, a, x, c, z, h1, h2, h3 => by
    have e1 : p = a := Option.some.inj h1
    have e2 : q = x := Option.some.inj h2
    have e3 : r = c := Option.some.inj h3
    subst e1 e2 e3
    have := z.1
    omega
  | p :: l, j + 1, a, x, c, z, h1, h2, h3 => zz_three (ps := l) (j := j) z.tail h1 h2 h3
  | [], _, _, _, _, _, h, _, _ => by simp at h
  | [_], 0, _, _, _, _, _, h, _ => by simp at h
  | [_, _], 0, _, _, _, _, _, _, h => by simp at h
theorem zz_two : ∀ {ps : List Int} {j : Nat} {a x : Int}, ZZ ps → ps[j]? = some a → ps[j + 1]? = some x → a ≠ x
  | p :: q :: l, 0, a, x, z, h1, h2 => by
    have e1 : p = a := Option.some.inj h1
    have e2 : q = x := Option.some.inj h2
    subst e1 e2
    exact zz_cons z
  | p :: l, j + 1, a, x, z, h1, h2 => zz_two (ps := l) (j := j) z.tail h1 h2
  | [], _, _, _, _, h, _ => by simp at h
  | [_], 0, _, _, _, _, h => by simp at h
/-- near is a neighbour of the point at j, the nearer one -/
def Near (ps : List Int) (j : Nat) (x near : Int) : Prop :=
  (∀ a, 0 < j → ps[j - 1]? = some a → (near - x).natAbs ≤ (a - x).natAbs) ∧ (∀ c, ps[j + 1]? = some c → (near - x).natAbs ≤ (c - x).natAbs) ∧ ((0 < j ∧ ps[j - 1]? = some near) ∨ ps[j + 1]? = some near)
theorem near_mid {ps : List Int} {j : Nat} {x near v : Int} (zz : ZZ ps) (hx : ps[j]? = some x) (hn : Near ps j x near) (hv : Mid x v near) : (∀ a, 0 < j → ps[j - 1]? = some a → Mid x v a) ∧ (∀ c, ps[j + 1]? = some c → Mid x v c) := by
  obtain ⟨n1, n2, n3⟩ := hn
  unfold Mid at *
  refine ⟨fun a hj ha => ?_, fun c hc => ?_⟩
  · have d := n1 a hj ha
    rcases n3 with ⟨_, e⟩ | e
    · rw [ha] at e
      cases e
      exact hv
    · obtain ⟨i, rfl⟩ : ∃ i, j = i + 1 := ⟨j - 1, by omega⟩
      have := zz_three zz ha hx e
      omega
  · have d := n2 c hc
    rcases n3 with ⟨hj, e⟩ | e
    · obtain ⟨i, rfl⟩ : ∃ i, j = i + 1 := ⟨j - 1, by omega⟩
      have := zz_three zz e hx hc
      omega
    · rw [hc] at e
      cases e
      exact hv
theorem lowered {lo hi : Int} (h0 : lo < hi) {ns : List Int} {j : Nat} {x near v : Int} (hx : (tp ns)[j]? = some x) (hn : Near (tp ns) j x near) (hv : Mid x v near) : chg ((tp ns).set j v) lo hi ≤ chg ns lo hi := by
  rw [← chg_tp h0 ns]
  generalize hp : tp ns = ps at *
  have zz : ZZ ps := hp ▸ tp_zz ns
  obtain ⟨m1, m2⟩ := near_mid zz hx hn hv
  obtain ⟨hj, ex⟩ := List.getElem?_eq_some_iff.mp hx
  have e1 : ps.set j v = ps.take j ++ v :: ps.drop (j + 1) := by rw [List.set_eq_take_append_cons_drop, if_pos hj]
  have e2 : ps.take j ++ x :: ps.drop (j + 1) = ps := by
    rw [← ex, ← List.drop_eq_getElem_cons hj, List.take_append_drop]
  rw [e1]
  refine Nat.le_trans (chg_put_at h0 (x := x) (v := v) (fun a ha => ?_) (fun c hc => ?_)) (Nat.le_of_eq (by rw [e2]))
  · rw [List.getLast?_eq_getElem?, List.length_take, Nat.min_eq_left (by omega)] at ha
    by_cases z : 0 < j
    · rw [List.getElem?_take] at ha
      rw [if_pos (by omega)] at ha
      exact m1 a z ha
    · have : j = 0 := by omega
      subst this
      simp at ha
  · rw [List.head?_drop] at hc
    exact m2 c hc
theorem sort_two {ms : List Int} {u v : Int} (p : ms.Perm [u, v]) (s : ms.Pairwise (· ≤ ·)) : ms = [(rg u v).1, (rg u v).2] := by
  have hl := p.length_eq
  match ms, hl with
  | [a, b], _ =>
    have h1 := (p.mem_iff (a := a)).mp (by simp)
    have h2 := (p.mem_iff (a := b)).mp (by simp)
    have h3 := (p.mem_iff (a := u)).mpr (by simp)
    have h4 := (p.mem_iff (a := v)).mpr (by simp)
    simp only [List.mem_cons, List.not_mem_nil, or_false] at h1 h2 h3 h4
    have h5 : a ≤ b := by simpa using s
    unfold rg
    dsimp only
    have e1 : a = if v < u then v else u := by split <;> omega
    have e2 : b = if v > u then v else u := by split <;> omega
    rw [← e1, ← e2]
end K9

/-! loads joined -/
namespace RJ
open PM RM RN RS K9
theorem tp_app : ∀ (b a : List Int), tp (a ++ b) = b.foldl push (tp a)
  | [], a => by rw [List.append_nil]; rfl
  | r :: b, a => by
    rw [List.foldl_cons, ← tp_push, ← tp_app b (a ++ [r])]
    simp
theorem tp_tpl (a b : List Int) : tp (tp a ++ b) = tp (a ++ b) := by rw [tp_app, tp_app, zz_tp (tp_zz a)]
theorem tp_tpr (a b : List Int) : tp (a ++ tp b) = tp (a ++ b) := by
  rw [← List.reverse_inj, ← tp_rev, ← tp_rev, List.reverse_append, List.reverse_append, ← tp_rev, tp_tpl]
theorem run_fold : ∀ (b : List Int) {p q : List Int} {cs : List (Int × Int)}, Run p cs q → ZZ p → Run (b.foldl push p) cs (b.foldl push q)
  | [], _, _, _, h, _ => h
  | r :: b, _, _, _, h, z => run_fold b (run_push h z r) (zz_push r z)
theorem run_l {a ra : List Int} {ca : List (Int × Int)} (h : Run (tp a) ca ra) (b : List Int) : Run (tp (a ++ b)) ca (tp (ra ++ b)) := by
  have z := h.zz (tp_zz a)
  have := run_fold b h (tp_zz a)
  rw [tp_app, tp_app, zz_tp z]
  exact this
theorem run_r {b rb : List Int} {cb : List (Int × Int)} (h : Run (tp b) cb rb) (a : List Int) : Run (tp (a ++ b)) cb (tp (a ++ rb)) := by
  have h1 := run_rev h
  rw [← tp_rev] at h1
  have h2 := run_rev (run_l h1 a.reverse)
  rw [← tp_rev, ← tp_rev] at h2
  simpa using h2
theorem joined {a b ra rb : List Int} {ca cb : List (Int × Int)} (h : Run (tp a) ca ra) (g : Run (tp b) cb rb) : Run (tp (a ++ b)) (ca ++ cb) (tp (ra ++ rb)) :=
  Run.append (run_l h b) (run_r g ra)
/-- a load with its count -/
abbrev Tri := List Int × List (Int × Int) × List Int
def lds (L : List Tri) : List Int := (L.map (·.1)).flatten
def cys (L : List Tri) : List (Int × Int) := (L.map (·.2.1)).flatten
def rss (L : List Tri) : List Int := (L.map (·.2.2)).flatten
theorem joinedN : ∀ (L : List Tri), (∀ t ∈ L, ∃ cs, cs.Perm t.2.1 ∧ Run (tp t.1) cs t.2.2) → ∃ cs, cs.Perm (cys L) ∧ Run (tp (lds L)) cs (tp (rss L))
  | [], _ => ⟨[], .nil, .nil _⟩
  | t :: L, h => by
    obtain ⟨c1, p1, r1⟩ := h t List.mem_cons_self
    obtain ⟨c2, p2, r2⟩ := joinedN L fun x hx => h x (List.mem_cons_of_mem _ hx)
    refine ⟨c1 ++ c2, p1.append p2, ?_⟩
    have := joined r1 r2
    rw [tp_tpr] at this
    exact this
end RJ

/-! counters -/
namespace BCt
open PySem PySem.Spec PyProof.Rows L2 KA KD PH PM PA PB PC RM RN RS QE QF QG QH RJ BO
open K9 (Cn cn_one)
abbrev sCtr : Stmt := topS 21
abbrev sKI : Stmt := inClass sCtr 0
abbrev sKC : Stmt := inClass sCtr 1
abbrev sKT : Stmt := inClass sCtr 2
abbrev sKA : Stmt := inClass sCtr 3
abbrev sKP : Stmt := inClass sCtr 4
abbrev sKK : Stmt := inClass sCtr 7
theorem scKI : FnScope ["self"] ["self"] (defScope sKI) := ⟨rfl, rfl, rfl, by decide +kernel, rfl, by decide +kernel, by decide +kernel⟩
theorem scKC : FnScope ["self"] ["self"] (defScope sKC) := ⟨rfl, rfl, rfl, by decide +kernel, rfl, by decide +kernel, by decide +kernel⟩
theorem scKT : FnScope ["self"] ["self"] (defScope sKT) := ⟨rfl, rfl, rfl, by decide +kernel, rfl, by decide +kernel, by decide +kernel⟩
theorem scKA : FnScope ["self", "readings", "before", "reading"] ["self", "readings"] (defScope sKA) := ⟨rfl, rfl, rfl, by decide +kernel, rfl, by decide +kernel, by decide +kernel⟩
theorem scKP : FnScope ["self", "reading"] ["self", "reading"] (defScope sKP) := ⟨rfl, rfl, rfl, by decide +kernel, rfl, by decide +kernel, by decide +kernel⟩
theorem scKK : FnScope ["self", "cycles", "cycle"] ["self", "cycles"] (defScope sKK) := ⟨rfl, rfl, rfl, by decide +kernel, rfl, by decide +kernel, by decide +kernel⟩
/-- what is asked of the class -/
structure Ctr (K : PySem.W.Frag) (CC : Addr) : Prop where
  cl : Cls K CC
  nC : NoAttr K CC "_cycles"
  nR : NoAttr K CC "_rest"
  nT : NoAttr K CC "_total"
def flds (C1 R1 : Addr) (n : Int) : List (Str × V) := [("_cycles", .ref C1), ("_rest", .ref R1), ("_total", .int n)]
/-- a counter stands -/
structure CtrAt (H : Hp) (CC x C1 R1 : Addr) (ds : List (Int × Int)) (rs : List Int) (n : Int) : Prop where
  ins : ∃ dx, H x = some (.ins CC dx (flds C1 R1 n))
  cy : ∃ xs, H C1 = some (.lst xs) ∧ PairsAt H xs ds
  srt : ds.Pairwise Le
  r : H R1 = some (.lst (rs.map V.int))
  ne : C1 ≠ R1
theorem CtrAt.same {H H' : Hp} {CC x C1 R1 : Addr} {ds : List (Int × Int)} {rs : List Int} {n : Int} (h : CtrAt H CC x C1 R1 ds rs n) (s : Same H H') : CtrAt H' CC x C1 R1 ds rs n := by
  obtain ⟨⟨dx, h1⟩, ⟨xs, h2, h3⟩, h4, h5, h6⟩ := h
  exact ⟨⟨dx, s _ _ h1⟩, ⟨xs, s _ _ h2, h3.same s⟩, h4, s _ _ h5, h6⟩
theorem CtrAt.xC {H : Hp} {CC x C1 R1 : Addr} {ds : List (Int × Int)} {rs : List Int} {n : Int} (h : CtrAt H CC x C1 R1 ds rs n) : x ≠ C1 ∧ x ≠ R1 := by
  obtain ⟨⟨dx, h1⟩, ⟨xs, h2, h3⟩, h4, h5, h6⟩ := h
  refine ⟨fun z => ?_, fun z => ?_⟩
  · rw [z, h2] at h1
    cases h1
  · rw [z, h5] at h1
    cases h1
/-- all is as it was, but a counter's own -/
def Ch3 (x C1 R1 : Addr) (H H' : Hp) : Prop := ∀ b o, b ≠ x → b ≠ C1 → b ≠ R1 → H b = some o → H' b = some o
theorem Ch3.trans {x C1 R1 : Addr} {H H1 H2 : Hp} (a : Ch3 x C1 R1 H H1) (b : Ch3 x C1 R1 H1 H2) : Ch3 x C1 R1 H H2 := fun c o n1 n2 n3 e => b c o n1 n2 n3 (a c o n1 n2 n3 e)
theorem cn_zz {ns : List Int} {ds : List (Int × Int)} {rs : List Int} (h : Cn ns ds rs) : ZZ rs := by
  obtain ⟨cs, run, p⟩ := h.ex
  exact run.zz (tp_zz ns)
theorem cn_len {ns : List Int} {ds : List (Int × Int)} {rs : List Int} (h : Cn ns ds rs) : 2 * ds.length + rs.length ≤ ns.length := by
  obtain ⟨cs, run, p⟩ := h.ex
  have h1 := run.len
  have h2 := tp_len ns
  have h3 := p.length_eq
  omega
theorem cn_add {ld : List Int} {ds ds' cs : List (Int × Int)} {rs rs' : List Int} {r : Int} (h : Cn ld ds rs) (run : Run (push rs r) cs rs') (nf : NF rs') (p : ds'.Perm (cs ++ ds)) (srt : ds'.Pairwise Le) : Cn (ld ++ [r]) ds' rs' := by
  obtain ⟨c0, r0, p0⟩ := h.ex
  refine ⟨⟨c0 ++ cs, ?_, p.trans (List.perm_append_comm.trans (p0.append_right cs))⟩, nf, srt⟩
  rw [tp_push]
  exact Run.append (run_push r0 (tp_zz ld) r) run
theorem zz_fold : ∀ (l : List Int) {p : List Int}, ZZ p → ZZ (l.foldl push p)
  | [], _, h => h
  | r :: l, _, h => zz_fold l (zz_push r h)
/-- a counter behind another one -/
theorem cn_att {la lb : List Int} {da db ds c : List (Int × Int)} {ra rb rs : List Int} (hA : Cn la da ra) (hB : Cn lb db rb) (run : Run (rb.foldl push ra) c rs) (nf : NF rs) (p : ds.Perm (c ++ (db ++ da))) (srt : ds.Pairwise Le) : Cn (la ++ lb) ds rs := by
  obtain ⟨c1, r1, p1⟩ := hA.ex
  obtain ⟨c2, r2, p2⟩ := hB.ex
  have j := joined r1 r2
  rw [show tp (ra ++ rb) = rb.foldl push ra by rw [tp_app, zz_tp (cn_zz hA)]] at j
  exact ⟨⟨(c1 ++ c2) ++ c, Run.append j run, p.trans (List.perm_append_comm.trans (((p2.append p1).trans List.perm_append_comm).append_right c))⟩, nf, srt⟩
section
variable {P : Program} {w : World} {K : PySem.W.Frag} {mg : Str → Option Value} {base : Heap} {CC : Addr}
def spKI (CC : Addr) : Sp := fun vs H Q _ => ∃ (x dx : Addr), vs = [.ref x] ∧ H x = some (.ins CC dx []) ∧ ∀ H' C1 R1, (∀ b o, b ≠ x → H b = some o → H' b = some o) → CtrAt H' CC x C1 R1 [] [] 0 → H C1 = none → H R1 = none → Q .non H'
theorem ok_KI {f : Addr} {fd : FuncData} {k : Nat} (F : Fun K "__init__" "Counter.__init__" sKI f fd) (T : Ctr K CC) : FnOk P w K mg base CX0 (k + 1) f fd ["self"] (spKI CC) := by
  refine F.ok scKI (fun vs H Q E h => ?_) (fun cdv A outer s H vs Q E hr h => ?_)
  · obtain ⟨x, dx, rfl, _⟩ := h
    rfl
  · obtain ⟨x, dx, rfl, hx, hq⟩ := h
    refine ⟨_, pss_cons (ps_fld (pv 0) (pe_lst pa_nil) rfl) (pss_cons (ps_fld (pv 0) (pe_lst pa_nil) rfl) (pss_one (ps_fld (pv 0) pe_int rfl))), ?_⟩
    refine ⟨Nat.zero_le _, fun C1 nC => ?_⟩
    have n1 : C1 ≠ x := fun z => by rw [z, hx] at nC; cases nC
    refine ⟨.ref x, rfl, x, CC, dx, [], rfl, by rw [upd_ne n1.symm]; exact hx, T.cl, T.nC, by decide, Nat.zero_le _, fun R1 nR => ?_⟩
    have n2 : R1 ≠ x := fun z => by rw [z, upd_same] at nR; cases nR
    have n3 : R1 ≠ C1 := fun z => by rw [z, upd_ne n1, upd_same] at nR; cases nR
    refine ⟨.ref x, rfl, x, CC, dx, [("_cycles", .ref C1)], rfl, by rw [upd_ne n2.symm, upd_same]; rfl, T.cl, T.nR, by show 1 < 1000; decide, ?_⟩
    refine ⟨.ref x, rfl, x, CC, dx, [("_cycles", .ref C1), ("_rest", .ref R1)], rfl, by rw [upd_same]; rfl, T.cl, T.nT, by show 2 < 1000; decide, ?_⟩
    have nR0 : H R1 = none := by rw [upd_ne n2, upd_ne n3] at nR; exact nR
    refine hq _ C1 R1 (fun b o nb e => ?_) ⟨⟨dx, ?_⟩, ⟨[], ?_, trivial⟩, .nil, ?_, n3.symm⟩ nC nR0
    · have b1 : b ≠ C1 := fun z => by rw [z, nC] at e; cases e
      have b2 : b ≠ R1 := fun z => by rw [z, nR0] at e; cases e
      rw [upd_ne nb, upd_ne nb, upd_ne b2, upd_ne nb, upd_ne b1]
      exact e
    · rw [upd_same]
      rfl
    · rw [upd_ne n1, upd_ne n1, upd_ne n3.symm, upd_ne n1, upd_same]
    · rw [upd_ne n2, upd_ne n2, upd_same]
      rfl
def spKC (CC C : Addr) : Sp := fun vs H Q _ => ∃ (x C1 R1 : Addr) (ds : List (Int × Int)) (rs : List Int) (n : Int), vs = [.ref x] ∧ CtrAt H CC x C1 R1 ds rs n ∧ ∀ H' y, Same H H' → H y = none → CountAt H' C y ds rs → Q (.ref y) H'
theorem ok_KC {C f fI : Addr} {fd dI : FuncData} {k : Nat} (F : Fun K "counted" "Counter.counted" sKC f fd) (T : Ctr K CC) (M : Mk K C fI) (gC : mg "Count" = some (.ref C)) (GI : FnOk P w K mg base CX0 k fI dI ["self", "cycles", "rest"] (spInit K C)) (bI : Binds K dI ["self", "cycles", "rest"] []) :
    FnOk P w K mg base CX0 (k + 2) f fd ["self"] (spKC CC C) := by
  refine F.ok scKC (fun vs H Q E h => ?_) (fun cdv A outer s H vs Q E hr h => ?_)
  · obtain ⟨x, C1, R1, ds, rs, n, rfl, _⟩ := h
    rfl
  · obtain ⟨x, C1, R1, ds, rs, n, rfl, ⟨⟨dx, hx⟩, ⟨xs, hc, pa⟩, srt, hrr, ne⟩, hq⟩ := h
    refine ⟨_, pss_one (ps_ret (pe_make M GI hr (by rfl) gC bI .nil pass0 (pa_cons (pe_fld (pv 0) rfl) (pa_cons (pe_fld (pv 0) rfl) pa_nil)))), ?_⟩
    refine ⟨.ref x, rfl, x, CC, dx, _, .ref C1, rfl, hx, T.cl, T.nC, rfl, .ref x, rfl, x, CC, dx, _, .ref R1, rfl, hx, T.cl, T.nR, rfl, fun y dy ny ndy nn => ?_⟩
    have s5 : Same H (upd (upd H dy (.own y)) y (.ins C dy [])) := (same_new ndy).trans (same_new (by rw [upd_ne nn.symm]; exact ny))
    refine ⟨y, C1, R1, dy, xs, ds, rs, rfl, upd_same, s5 _ _ hc, pa.same s5, s5 _ _ hrr, fun H' ds' keep ca perm srt' => ⟨rfl, ?_⟩⟩
    have e : ds' = ds := sorted_same perm srt' srt
    rw [e] at ca
    exact hq H' y (fun b o e => keep b o (ne_of_none e ny) (s5 _ _ e)) ny ca
def spKT (CC : Addr) : Sp := fun vs H Q _ => ∃ (x C1 R1 : Addr) (ds : List (Int × Int)) (rs : List Int) (n : Int), vs = [.ref x] ∧ CtrAt H CC x C1 R1 ds rs n ∧ Q (.int n) H
theorem ok_KT {f : Addr} {fd : FuncData} {k : Nat} (F : Fun K "total" "Counter.total" sKT f fd) (T : Ctr K CC) : FnOk P w K mg base CX0 (k + 1) f fd ["self"] (spKT CC) := by
  refine F.ok scKT (fun vs H Q E h => ?_) (fun cdv A outer s H vs Q E hr h => ?_)
  · obtain ⟨x, C1, R1, ds, rs, n, rfl, _⟩ := h
    rfl
  · obtain ⟨x, C1, R1, ds, rs, n, rfl, ⟨⟨dx, hx⟩, _, _, _, _⟩, hq⟩ := h
    exact ⟨_, pss_one (ps_ret (pe_fld (pv 0) rfl)), .ref x, rfl, x, CC, dx, _, .int n, rfl, hx, T.cl, T.nT, rfl, hq⟩
def spKK (K : PySem.W.Frag) (CC : Addr) : Sp := fun vs H Q _ => ∃ (x l C1 R1 : Addr) (ys : List V) (es ds : List (Int × Int)) (rs : List Int) (n : Int), vs = [.ref x, .ref l] ∧ CtrAt H CC x C1 R1 ds rs n ∧ H l = some (.lst ys) ∧ l ≠ C1 ∧ PairsAt H ys es ∧ es.length + ds.length ≤ 2400 ∧
  ∀ H' ds', Ch C1 H H' → CtrAt H' CC x C1 R1 ds' rs n → ds'.Perm (es ++ ds) → Q .non H'
theorem ok_KK {f fT : Addr} {fd dT : FuncData} {k : Nat} (F : Fun K "_keep" "Counter._keep" sKK f fd) (T : Ctr K CC) (GT : FnOk P w K mg base CX0 k fT dT ["row", "value"] spPT) (gT : mg "put_in" = some (.ref fT)) (kT : PySem.W.keepIn K (.ref fT) = true) (bT : Binds K dT ["row", "value"] []) :
    FnOk P w K mg base CX0 (k + 1) f fd ["self", "cycles"] (spKK K CC) := by
  refine F.ok scKK (fun vs H Q E h => ?_) (fun cdv A outer s H vs Q E hr h => ?_)
  · obtain ⟨x, l, C1, R1, ys, es, ds, rs, n, rfl, _⟩ := h
    rfl
  · obtain ⟨x, l, C1, R1, ys, es, ds, rs, n, rfl, ca, hl, nl, pa, len, hq⟩ := h
    obtain ⟨nxC, nxR⟩ := ca.xC
    obtain ⟨dx0, hx0⟩ := ca.ins
    refine ⟨_, pss_one (ps_for PassesOwn.never rfl (pi_list (pv 1)) (pg_name (i := 2) scKK.nd rfl (.inl rfl))
      (pss_one (ps_expr (pe_call GT hr (by rfl) gT kT bT .nil pass0 (pa_cons (pe_fld (pv 0) rfl) (pa_cons (pv 2) pa_nil)))))), ?_⟩
    have yl := pa.length
    refine ⟨.ref l, rfl, l, rfl, ⟨_, SqL.of hl⟩, for_list (K := K) (a := l) (xs := ys) (fun i σ Hx => Ch C1 H Hx ∧ ∃ (ds' : List (Int × Int)) (r2 : Option V), CtrAt Hx CC x C1 R1 ds' rs n ∧ ds'.Perm (es.take i ++ ds) ∧ σ = [some (.ref x), some (.ref l), r2]) ⟨.refl _ _, ds, none, ca, by rw [List.take_zero]; exact List.Perm.refl _, rfl⟩ (fun i σ Hx _ g => SqL.of (g.1 _ _ nl hl)) ?_ ?_⟩
    · rintro i v σ Hx hv ⟨cx, ds', r2, ca', pm, rfl⟩
      obtain ⟨q, c, rfl, hc, hqv⟩ : ∃ q c, v = V.ref q ∧ es[i]? = some c ∧ H q = some (.tup [.int c.1, .int c.2]) := by
        obtain ⟨j, hj⟩ : ∃ j, es[i]? = some j := ⟨_, List.getElem?_eq_getElem (by have := (List.getElem?_eq_some_iff.mp hv).1; omega)⟩
        obtain ⟨p, hp, hp2⟩ := pair_get pa hj
        rw [hv] at hp
        exact ⟨p, j, Option.some.inj hp, hj, hp2⟩
      obtain ⟨⟨dx, hx⟩, ⟨xs, hcy, pc⟩, srt, hrr, ne⟩ := ca'
      have hl2 := pm.length_eq
      rw [List.length_append, List.length_take] at hl2
      have nq : q ≠ C1 := fun z => by
        obtain ⟨xs0, h0, _⟩ := ca.cy
        rw [z, h0] at hqv
        cases hqv
      refine ⟨.ref x, rfl, x, CC, dx, _, .ref C1, rfl, hx, T.cl, T.nC, rfl, .ref q, rfl, C1, q, xs, ds', c, rfl, hcy, pc, srt, cx _ _ nq hqv, by omega, fun xs' rs' pa' perm' srt' => ?_⟩
      refine ⟨cx.trans .put, rs', _, ⟨⟨dx, by rw [upd_ne nxC]; exact hx⟩, ⟨xs', upd_same, pairs_upd hcy pa'⟩, srt', by rw [upd_ne ne.symm]; exact hrr, ne⟩, ?_, rfl⟩
      rw [List.take_add_one, hc]
      refine perm'.trans ((List.Perm.cons c pm).trans ?_)
      show (c :: (es.take i ++ ds)).Perm ((es.take i ++ [c]) ++ ds)
      rw [List.append_assoc]
      exact List.perm_middle.symm
    · rintro σ Hx ⟨cx, ds', r2, ca', pm, rfl⟩
      rw [yl, List.take_length] at pm
      exact hq Hx ds' cx ca' pm
end
end BCt

/-! counters: add, preview, attach -/
namespace BCu
open PySem PySem.Spec PyProof.Rows L2 KA KD PH PM PA PB PC RM RN RS QE QF QG QH RJ BO BCt
open K9 (Cn cn_one)
theorem Ch3.of1 {x C1 R1 : Addr} {H H' : Hp} (c : Ch C1 H H') : Ch3 x C1 R1 H H' := fun b o _ n _ e => c b o n e
theorem Ch3.ofR {x C1 R1 : Addr} {H H' : Hp} (c : Ch R1 H H') : Ch3 x C1 R1 H H' := fun b o _ _ n e => c b o n e
section
variable {P : Program} {w : World} {K : PySem.W.Frag} {mg : Str → Option Value} {base : Heap} {CC : Addr}
/-- the cycles of one reading more, kept -/
theorem keep_step {H H' : Hp} {x C1 R1 : Addr} {ds : List (Int × Int)} {rs rs' : List Int} {n : Int} (ca : CtrAt H CC x C1 R1 ds rs n) (c : Ch R1 H H') (hr : H' R1 = some (.lst (rs'.map V.int))) : CtrAt H' CC x C1 R1 ds rs' n := by
  obtain ⟨n1, n2⟩ := ca.xC
  obtain ⟨⟨dx, h1⟩, ⟨xs, h2, h3⟩, h4, h5, h6⟩ := ca
  exact ⟨⟨dx, c _ _ n2 h1⟩, ⟨xs, c _ _ h6 h2, ch_pairs c h5 h3⟩, h4, hr, h6⟩
def spKAB (CC : Addr) : Sp := fun vs H Q _ => ∃ (x t C1 R1 : Addr) (ds : List (Int × Int)) (rs ld new : List Int) (n : Int), vs = [.ref x, .ref t] ∧ CtrAt H CC x C1 R1 ds rs n ∧ H t = some (.tup (new.map V.int)) ∧ Cn ld ds rs ∧ ld.length + new.length ≤ 2000 ∧
  ∀ H' ds' rs', Ch3 x C1 R1 H H' → CtrAt H' CC x C1 R1 ds' rs' (n + new.length) → Cn (ld ++ new) ds' rs' → Q (.int ((ds'.length : Int) - ds.length)) H'
def spKA (CC : Addr) : Sp := fun vs H Q _ => ∃ (x C1 R1 : Addr) (ds : List (Int × Int)) (rs ld new : List Int) (n : Int), vs = .ref x :: new.map V.int ∧ CtrAt H CC x C1 R1 ds rs n ∧ Cn ld ds rs ∧ ld.length + new.length ≤ 2000 ∧
  ∀ H' ds' rs', Ch3 x C1 R1 H H' → CtrAt H' CC x C1 R1 ds' rs' (n + new.length) → Cn (ld ++ new) ds' rs' → Q (.int ((ds'.length : Int) - ds.length)) H'
theorem ok_KA {f fB fK : Addr} {fd dB dK : FuncData} {k : Nat} (F : Fun K "add" "Counter.add" sKA f fd) (T : Ctr K CC)
    (GB : FnOk P w K mg base CX0 k fB dB ["rest", "reading"] spPB) (gB : mg "put_behind" = some (.ref fB)) (kB : PySem.W.keepIn K (.ref fB) = true) (bB : Binds K dB ["rest", "reading"] [])
    (mK : Meth K CC "_keep" fK) (GK : FnOk P w K mg base CX0 k fK dK ["self", "cycles"] (spKK K CC)) (bK : Binds K dK ["self", "cycles"] []) (ml : mg "len" = none) :
    FnR P w K mg base CX0 (k + 1) f (spKA CC) := by
  obtain ⟨oc, od, kV, doc, pm, an, cdv, ct, osl, e1, lk, hcd⟩ := F.ex
  subst e1
  have star := StX.fn_star (CX := CX0) (P := P) (w := w) (mg := mg) (base := base) (k := k) (N := ["self", "readings", "before", "reading"]) (ps := ["self"]) (pv := "readings") (sp := spKAB CC) lk hcd scKA StX.cxUp_none
    (fun us rest hl => by
      match us, hl with
      | [u], _ => cases rest <;> rfl)
    (fun A outer s H vs Q E hr h => ?_)
  · intro A outer s H us vs Q E hr e0 rv h
    obtain ⟨x, C1, R1, ds, rs, ld, new, n, rfl, ca, cn, ln, q⟩ := h
    refine star A outer s H us _ Q E hr e0 rv ⟨[.ref x], new.map V.int, rfl, rfl, by rw [List.length_map]; exact Nat.le_of_lt (small3000 (by omega)), fun p np => ?_⟩
    have sp := same_new (o := .tup (new.map V.int)) np
    refine ⟨x, p, C1, R1, ds, rs, ld, new, n, rfl, ca.same sp, upd_same, cn, ln, fun H' ds' rs' c => ?_⟩
    exact q H' ds' rs' fun b o n1 n2 n3 e => c b o n1 n2 n3 (sp _ _ e)
  · obtain ⟨x, t, C1, R1, ds, rs, ld, new, n, rfl, ca, ht, cn, ln, hq⟩ := h
    obtain ⟨nxC, nxR⟩ := ca.xC
    refine ⟨_, PSs.nox (pss_cons (ps_set (i := 2) scKA.nd rfl (.inl rfl) (pe_callB call_len_seq (by rfl) ml PySem.boot_len (pa_cons (pe_fld (pv 0) rfl) pa_nil)))
      (pss_cons (ps_for PassesOwn.never rfl (pi_tup (pv 1)) (pg_name (i := 3) scKA.nd rfl (.inl rfl))
        (pss_one (ps_expr (pe_meth (pv 0) T.cl mK GK hr bK .nil pass0 (pa_cons (pe_call GB hr (by rfl) gB kB bB .nil pass0 (pa_cons (pe_fld (pv 0) rfl) (pa_cons (pv 3) pa_nil))) pa_nil)))))
      (pss_cons (ps_fldaug (pv 0) (pe_callB call_len_seq (by rfl) ml PySem.boot_len (pa_cons (pv 1) pa_nil)) in_add)
      (pss_one (ps_ret (pe_op op_sub (pe_callB call_len_seq (by rfl) ml PySem.boot_len (pa_cons (pe_fld (pv 0) rfl) pa_nil)) (pv 2))))))), ?_⟩
    obtain ⟨dx, hx⟩ := ca.ins
    obtain ⟨xs, hcy, pc⟩ := ca.cy
    have xl := pc.length
    refine ⟨.ref x, rfl, x, CC, dx, _, .ref C1, rfl, hx, T.cl, T.nC, rfl, C1, xs, rfl, .inl (SqL.of hcy), ?_⟩
    have ntx : t ≠ x := fun z => by rw [z, hx] at ht; cases ht
    have ntC : t ≠ C1 := fun z => by rw [z, hcy] at ht; cases ht
    have ntR : t ≠ R1 := fun z => by rw [z, ca.r] at ht; cases ht
    refine ⟨.ref t, rfl, t, rfl, ⟨_, SqT.of ht⟩, for_tup (K := K) (a := t) (xs := new.map V.int) (fun i σ Hx => Ch3 x C1 R1 H Hx ∧ ∃ (ds' : List (Int × Int)) (rs' : List Int) (r3 : Option V), CtrAt Hx CC x C1 R1 ds' rs' n ∧ Cn (ld ++ new.take i) ds' rs' ∧ σ = [some (.ref x), some (.ref t), some (.int xs.length), r3]) ⟨fun _ _ _ _ _ e => e, ds, rs, none, ca, by rw [List.take_zero, List.append_nil]; exact cn, rfl⟩ (fun i σ Hx _ g => SqT.of (g.1 _ _ ntx ntC ntR ht)) ?_ ?_⟩
    · rintro i v σ Hx hv ⟨cx, ds', rs', r3, ca', cn', rfl⟩
      obtain ⟨r, hr2, rfl⟩ := int_at hv
      obtain ⟨dx', hx'⟩ := ca'.ins
      obtain ⟨xs', hcy', pc'⟩ := ca'.cy
      have hl := cn_len cn'
      rw [List.length_append, List.length_take] at hl
      refine ⟨.ref x, rfl, x, dx', _, rfl, hx', rfl, .ref x, rfl, x, CC, dx', _, .ref R1, rfl, hx', T.cl, T.nR, rfl, .int r, rfl, R1, rs', r, rfl, ca'.r, cn_zz cn', cn'.nf, by omega, fun H2 p ys cs rs2 c2 np ep pa2 eR2 run2 nf2 => ?_⟩
      have ca2 := keep_step ca' c2 eR2
      have npC : p ≠ C1 := fun z => by rw [z, hcy'] at np; cases np
      have rl := run2.len
      have plen := push_len rs' r
      refine ⟨x, p, C1, R1, ys, cs, ds', rs2, n, rfl, ca2, ep, npC, pa2, by omega, fun H3 ds3 c3 ca3 pm3 => ?_⟩
      refine ⟨cx.trans ((Ch3.ofR c2).trans (Ch3.of1 c3)), ds3, rs2, _, ca3, ?_, rfl⟩
      rw [List.take_add_one, hr2]
      show Cn (ld ++ (new.take i ++ [r])) ds3 rs2
      rw [← List.append_assoc]
      exact cn_add cn' run2 nf2 pm3 ca3.srt
    rintro σ H1 ⟨c1, ds', rs', r3, ca', cn', rfl⟩
    rw [List.length_map, List.take_length] at cn'
    obtain ⟨dx', hx'⟩ := ca'.ins
    obtain ⟨xs', hcy', pc'⟩ := ca'.cy
    have xl' := pc'.length
    have ht1 := c1 _ _ ntx ntC ntR ht
    refine ⟨.ref x, rfl, x, CC, dx', _, .int n, rfl, hx', T.cl, T.nT, rfl, .ref t, rfl, t, _, rfl, .inr (SqT.of ht1), n, _, rfl, rfl, dx', _, hx', by show 3 < 1000; decide, ?_⟩
    have hput : putF "_total" (.int (n + ((new.map V.int).length : Int))) (flds C1 R1 n) = flds C1 R1 (n + (new.length : Int)) := by
      rw [List.length_map]
      rfl
    rw [hput]
    have ca2 : CtrAt (upd H1 x (.ins CC dx' (flds C1 R1 (n + (new.length : Int))))) CC x C1 R1 ds' rs' (n + (new.length : Int)) := by
      refine ⟨⟨dx', upd_same⟩, ⟨xs', by rw [upd_ne nxC.symm]; exact hcy', pairs_ne (x := x) (fun b o nb e => by rw [upd_ne nb]; exact e) (fun o e => ⟨CC, dx', _, by rw [hx'] at e; exact (Option.some.inj e).symm⟩) pc'⟩, ca'.srt, by rw [upd_ne nxR.symm]; exact ca'.r, ca'.ne⟩
    have c2 : Ch3 x C1 R1 H (upd H1 x (.ins CC dx' (flds C1 R1 (n + (new.length : Int))))) := fun b o n1 n2 n3 e => by rw [upd_ne n1]; exact c1 b o n1 n2 n3 e
    refine ⟨.ref x, rfl, x, CC, dx', _, .ref C1, rfl, upd_same, T.cl, T.nC, rfl, C1, xs', rfl, .inl (SqL.of (by rw [upd_ne nxC.symm]; exact hcy')), .int xs.length, rfl, _, _, rfl, rfl, ?_⟩
    rw [xl', xl]
    exact hq _ ds' rs' c2 ca2 cn'
def spKP (CC : Addr) : Sp := fun vs H Q _ => ∃ (x C1 R1 : Addr) (ds : List (Int × Int)) (rs : List Int) (n r : Int), vs = [.ref x, .int r] ∧ CtrAt H CC x C1 R1 ds rs n ∧ ZZ rs ∧ NF rs ∧ rs.length ≤ 2000 ∧
  ∀ H' t ys es cs rs', Same H H' → H' t = some (.tup ys) → PairsAt H' ys es → es.Perm cs → es.Pairwise Le → Run (push rs r) cs rs' → NF rs' → Q (.ref t) H'
theorem ok_KP {f fB : Addr} {fd dB : FuncData} {k : Nat} (F : Fun K "preview" "Counter.preview" sKP f fd) (T : Ctr K CC)
    (GB : FnOk P w K mg base CX0 k fB dB ["rest", "reading"] spPB) (gB : mg "put_behind" = some (.ref fB)) (kB : PySem.W.keepIn K (.ref fB) = true) (bB : Binds K dB ["rest", "reading"] []) (mt : mg "tuple" = none) (ms : mg "sorted" = none) (mli : mg "list" = none) :
    FnOk P w K mg base CX0 (k + 1) f fd ["self", "reading"] (spKP CC) := by
  refine F.ok scKP (fun vs H Q E h => ?_) (fun cdv A outer s H vs Q E hr h => ?_)
  · obtain ⟨x, C1, R1, ds, rs, n, r, rfl, _⟩ := h
    rfl
  · obtain ⟨x, C1, R1, ds, rs, n, r, rfl, ca, zz, nf, ln, hq⟩ := h
    refine ⟨_, pss_one (ps_ret (pe_callTy call_tuple_of (by rfl) mt (by decide +kernel) (pa_cons (pe_callB cr_sortedPO (by rfl) ms (by decide +kernel) (pa_cons (pe_call GB hr (by rfl) gB kB bB .nil pass0 (pa_cons (pe_callTy call_list_of (by rfl) mli (by decide +kernel) (pa_cons (pe_fld (pv 0) rfl) pa_nil)) (pa_cons (pv 1) pa_nil))) pa_nil)) pa_nil))), ?_⟩
    obtain ⟨dx, hx⟩ := ca.ins
    refine ⟨.ref x, rfl, x, CC, dx, _, .ref R1, rfl, hx, T.cl, T.nR, rfl, R1, _, rfl, .inl (SqL.of ca.r), fun l nl => ?_⟩
    have sl := same_new (o := .lst (rs.map V.int)) nl
    refine ⟨.int r, rfl, l, rs, r, rfl, upd_same, zz, nf, by omega, fun H2 p ys cs rs2 c2 np ep pa2 eR2 run2 nf2 => ?_⟩
    have s2 : Same H H2 := fun b o e => c2 b o (ne_of_none e nl) (sl b o e)
    refine ⟨p, ys, kOf H2, rfl, SqL.of ep, (pairs_key pa2).2, fun zs q h1 h2 nq => ?_⟩
    obtain ⟨es, pe, perm, srt⟩ := sorted_out pa2 h1 h2
    refine ⟨q, zs, rfl, .inl ⟨SqL.of upd_same, fun t nt => ?_⟩⟩
    have s3 := (same_new (o := .lst zs) nq).trans (same_new (o := .tup zs) nt)
    exact hq _ t zs es cs rs2 (s2.trans s3) upd_same (pe.same s3) perm srt run2 nf2
end
end BCu

/-! str(x) by an own __str__; == and != of an instance and a value of another type -/
namespace GS
open PySem PySem.Spec PyProof.Rows L2 GN
section
variable {X : Cx} {n : Nat} {CX : CXT} {C f : Addr} {fd : FuncData} {ps : List Str} {sp : Sp} {E : XK}
def rOth (K : PySem.W.Frag) (C : Addr) (sp : Sp) (E : XK) (neg : Bool) : R2 := fun x y H Q => ∃ a dx fs t, x = .ref a ∧ H a = some (.ins C dx fs) ∧ TyX K H y t ∧ PySem.W.notFirst K C t = true ∧ sp [.ref a, y] H (fun v H' => ∃ r, v = .bl r ∧ Q (.bl (neg != r)) H') E
theorem op_eqOth (F : FnOk X.prog X.w X.K X.mg X.base CX n f fd ps sp) (hr : Room n X.A) (hs : PySem.W.findIn X.K (.ref C) "__eq__" = some (some (.ref f))) (hf : PySem.W.isFn X.K (.ref f) = true) (hb : Binds X.K fd ps []) (hx : Passes CX X E) : OpR X (compareOp .Eq) (rOth X.K C sp E false) := by
  intro pins s σ H x y v u Q I rx ry hq
  obtain ⟨a, dx, fs, t, rfl, ha, ty, nf, hsp⟩ := hq
  cases rx
  obtain ⟨mA, J, _⟩ := ins_get I.hok ha
  obtain ⟨od, J, _⟩ := J.look
  obtain ⟨Pt, Z, p, _⟩ := kit_of I ry ty
  have sb : Sub X n X.A := ⟨hr, rfl⟩
  have r2 : Vals [V.ref a, y] [Value.ref a, u] := .cons rfl (.cons ry .nil)
  obtain ⟨m, hF⟩ := I.fr
  show wpAny (model X.prog X.w) X.A (richCompare .Eq _ _) (EP X pins σ Q) X.xe s
  refine PySem.W.cmp_K (op := .Eq) (tb := t) sb.room.units0 hF I.ok.mod.kin J (Z.ty _ _ I.kIn p) nf hs hf ?_
  refine wpAny_mono (call_own F hb hx sb I r2 hsp) (fun v s' hv => ?_) fun _ _ e => e
  obtain ⟨z, H', I', rz, r, rfl, q⟩ := hv
  cases rz
  exact ⟨.bl r, H', I', rfl, by cases r <;> exact q⟩
theorem op_neOth (F : FnOk X.prog X.w X.K X.mg X.base CX n f fd ps sp) (hr : Room (n + 1) X.A) (hs : PySem.W.findIn X.K (.ref C) "__eq__" = some (some (.ref f))) (hf : PySem.W.isFn X.K (.ref f) = true) (hm : PySem.W.mroIn X.K C (.type "object") = some true)
    (hne : PySem.W.findIn X.K (.ref C) "__ne__" = some (some (.builtin "object.__ne__"))) (hb : Binds X.K fd ps []) (hx : Passes CX X E) : OpR X (compareOp .NotEq) (rOth X.K C sp E true) := by
  intro pins s σ H x y v u Q I rx ry hq
  obtain ⟨a, dx, fs, t, rfl, ha, ty, nf, hsp⟩ := hq
  cases rx
  obtain ⟨mA, J, _⟩ := ins_get I.hok ha
  obtain ⟨od, J, _⟩ := J.look
  obtain ⟨Pt, Z, p, _⟩ := kit_of I ry ty
  have sb : Sub X (n + 1) X.A := ⟨hr, rfl⟩
  have r2 : Vals [V.ref a, y] [Value.ref a, u] := .cons rfl (.cons ry .nil)
  show wpAny (model X.prog X.w) X.A (richCompare .NotEq _ _) (EP X pins σ Q) X.xe s
  refine rc_ne (tb := t) sb.in1.room.units0 I.kIn J (Z.ty _ _ I.kIn p) nf hm hs hf hne ?_
  refine wpAny_mono (call_own F hb hx sb.in1 I r2 hsp) (fun v s' hv => ?_) fun _ _ e => e
  obtain ⟨z, H', I', rz, r, rfl, q⟩ := hv
  cases rz
  exact ⟨r, rfl, .bl (!r), H', I', rfl, by cases r <;> exact q⟩
/-- str(x) of an instance whose class has a __str__ of its own -/
def rStrOwn (C : Addr) (sp : Sp) (E : XK) : List V → Hp → VK → Prop := fun vs H Q => ∃ a dx fs, vs = [.ref a] ∧ H a = some (.ins C dx fs) ∧ sp [.ref a] H (fun v H' => ∃ z : Str, v = .str z ∧ Q (.str z) H') E
theorem cr_strOwn (F : FnOk X.prog X.w X.K X.mg X.base CX n f fd ps sp) (hr : Room (n + 2) X.A) (hs : PySem.W.findIn X.K (.ref C) "__str__" = some (some (.ref f))) (hf : PySem.W.isFn X.K (.ref f) = true) (hb : Binds X.K fd ps []) (hx : Passes CX X E) : CallR X (.type "str") (rStrOwn C sp E) := by
  intro pins s σ H vs us Q I r h
  obtain ⟨a, dx, fs, rfl, ha, hsp⟩ := h
  have er : us = [Value.ref a] := Vals.ref1 r
  subst er
  obtain ⟨mA, J, _⟩ := ins_get I.hok ha
  obtain ⟨od, J, _⟩ := J.look
  have sb : Sub X (n + 2) X.A := ⟨hr, rfl⟩
  have r2 : Vals [V.ref a] [Value.ref a] := .cons rfl .nil
  refine PySem.W.kso_call sb.in1.in1.room.units0 I.kIn J hs hf ?_
  refine wpAny_mono (call_own F hb hx sb.in1.in1 I r2 hsp) (fun v s' hv => ?_) fun _ _ e => e
  obtain ⟨z, H', I', rz, y, rfl, q⟩ := hv
  obtain ⟨t, rfl⟩ := rz
  exact ⟨.str y, H', I', ⟨t, rfl⟩, q⟩
end
end GS

/-! the text of a count; == of a count and another thing -/
namespace WN
open PySem PySem.Spec PyProof.Rows L2 KA PH PM PA PB PC RM RN QE QF QG QH QK QL
abbrev sCR : Stmt := topS 15
abbrev sPRw : Stmt := topS 16
abbrev sST : Stmt := inClass sClass 9
theorem scCR : FnScope ["cycles", "low", "high"] ["cycles"] (defScope sCR) := ⟨rfl, rfl, rfl, by decide +kernel, rfl, by decide +kernel, by decide +kernel⟩
theorem scPRw : FnScope ["points", "point"] ["points"] (defScope sPRw) := ⟨rfl, rfl, rfl, by decide +kernel, rfl, by decide +kernel, by decide +kernel⟩
theorem scST : FnScope ["self"] ["self"] (defScope sST) := ⟨rfl, rfl, rfl, by decide +kernel, rfl, by decide +kernel, by decide +kernel⟩
theorem len_app (x y : Str) : (x ++ y).length = x.length + y.length := by
  show (x.cps ++ y.cps).size = _
  rw [Array.size_append]
  rfl
/-- the text of an int -/
def ti (i : Int) : Str := toString i
theorem ti_len {i : Int} (h : i.natAbs < 2 ^ 39) : (ti i).length ≤ 13 := by
  have := PySem.int_text_length_le10 (a := i) (k := 12) (by decide) (Nat.lt_trans h (by decide))
  have e : (ti i).length = (toString i).length := PySem.ofString_length _
  omega
theorem ti_log {i : Int} (h : i.natAbs < 2 ^ 39) : i.natAbs.log2 < 1920 := Nat.lt_of_lt_of_le (KG.small_log (by decide) h) (by decide)
def txC (r : Int × Int) : Str := ((Str.empty ++ ti r.1) ++ ":") ++ ti r.2
theorem col_len : ((":" : Str)).length = 1 := by decide +kernel
theorem txC_len {r : Int × Int} (h : r.1.natAbs < 2 ^ 39 ∧ r.2.natAbs < 2 ^ 39) : (txC r).length ≤ 27 := by
  unfold txC
  have h1 := ti_len h.1
  have h2 := ti_len h.2
  have h0 : (Str.empty).length = 0 := rfl
  have hc := col_len
  rw [len_app, len_app, len_app]
  omega
def rowC (ds : List (Int × Int)) : Str := if ds = [] then "none" else Txt.join " " (ds.map txC)
def rowP (rs : List Int) : Str := if rs = [] then "none" else Txt.join " " (rs.map ti)
def txt (ds : List (Int × Int)) (rs : List Int) : Str := Txt.join "\n" [rowC ds, rowP rs]
theorem sum_le {B : Nat} : ∀ {xs : List Str}, (∀ x ∈ xs, x.length ≤ B) → (xs.map (·.length)).sum ≤ B * xs.length
  | [], _ => Nat.zero_le _
  | x :: xs, h => by
    have h1 := h x List.mem_cons_self
    have h2 := sum_le (xs := xs) fun y hy => h y (List.mem_cons_of_mem _ hy)
    rw [List.map_cons, List.sum_cons, List.length_cons, Nat.mul_succ]
    omega
theorem sjoin_len {sep : Str} {B : Nat} : ∀ {xs : List Str}, (∀ x ∈ xs, x.length ≤ B) → (Str.join sep xs).length ≤ (B + sep.length) * xs.length
  | [], _ => Nat.zero_le _
  | [x], h => by
    have h1 := h x List.mem_cons_self
    show x.length ≤ _
    rw [List.length_singleton, Nat.mul_one]
    omega
  | x :: y :: xs, h => by
    have h1 := h x List.mem_cons_self
    have h2 := sjoin_len (sep := sep) (xs := y :: xs) fun z hz => h z (List.mem_cons_of_mem _ hz)
    show (x ++ sep ++ Str.join sep (y :: xs)).length ≤ _
    rw [len_app, len_app, List.length_cons, Nat.mul_succ]
    omega
theorem join_len {sep : Str} {B : Nat} {xs : List Str} (h : ∀ x ∈ xs, x.length ≤ B) : (Txt.join sep xs).length ≤ (B + sep.length) * xs.length := by
  show (Builtin.Str.glued sep xs).length ≤ _
  rw [StrLaws.glued_eq_join]
  exact sjoin_len h
section
variable {P : Program} {w : World} {K : PySem.W.Frag} {mg : Str → Option Value} {base : Heap}
/-- the text of a cycle, as a reading -/
def teJ : TE := fun σ H Q => tJs [tFmt (tVar 1), tC (V.str ":"), tFmt (tVar 2)] Str.empty σ H fun out H1 => Q (.str out) H1
def spCR (K : PySem.W.Frag) : Sp := fun vs H Q _ => ∃ (t : Addr) (ys : List V) (ds : List (Int × Int)), vs = [.ref t] ∧ H t = some (.tup ys) ∧ PairsAt H ys ds ∧ ds.length ≤ 2500 ∧ (∀ r ∈ ds, r.1.natAbs < 2 ^ 39 ∧ r.2.natAbs < 2 ^ 39) ∧ ∀ H', Same H H' → Q (.str (rowC ds)) H'
theorem ok_CR {f : Addr} {fd : FuncData} {k : Nat} (F : Fun K "cycles_row" "cycles_row" sCR f fd) (gN : ∃ u, mg "NOTHING" = some u ∧ RelV (.str "none") u) : FnOk P w K mg base CX0 (k + 1) f fd ["cycles"] (spCR K) := by
  refine F.ok scCR (fun vs H Q E h => ?_) (fun cdv A outer s H vs Q E hr h => ?_)
  · obtain ⟨t, ys, ds, rfl, _⟩ := h
    rfl
  · obtain ⟨t, ys, ds, rfl, ht, pa, ld, hb, q⟩ := h
    refine ⟨_, pss_one (ps_ret (pe_ifExp (pt_truth (pv 0) (by intro _; rfl)) (pe_join pe_str (pe_lc (own := [("low", 1), ("high", 2)]) (g := gTup K 2 (gCons (gName 1) (gCons (gName 2) gNil))) (tt := tYes) (te := teJ) rfl scCR.nd (pi_tup (pv 0)) (blkOk_by (own := [("low", 1), ("high", 2)]) (N := ["cycles", "low", "high"]) (sc := defScope sCR) (by decide +kernel))
        (fun _ _ _ _ _ => pg_tup rfl (pgs_cons (pg_name (i := 1) scCR.nd rfl (Or.inl rfl) (Or.inr rfl)) (pgs_cons (pg_name (i := 2) scCR.nd rfl (Or.inl rfl) (Or.inr rfl)) pgs_nil))) (fun _ _ _ _ _ => pts_nil)
        (fun _ _ _ _ _ => pe_joined (.cons (pe_fmt (pv 1)) (.cons pe_str (.cons (pe_fmt (pv 2)) .nil)))))) (C8.pe_gc (v := .str "none") (by rfl) gN))), ?_⟩
    refine ⟨.ref t, rfl, !ys.isEmpty, .inr (.inl ⟨_, SqT.of ht, rfl⟩), ?_⟩
    have hl := pa.length
    by_cases hd : ds = []
    · subst hd
      have : ys = [] := List.length_eq_zero_iff.mp hl
      subst this
      exact iteF (q H (Same.refl H))
    have he : (!ys.isEmpty) = true := by
      cases ys with
      | nil =>
        have : ds = [] := List.length_eq_zero_iff.mp hl.symm
        exact absurd this hd
      | cons _ _ => rfl
    rw [he]
    refine iteT ⟨⟨_, rfl⟩, .ref t, rfl, t, rfl, ⟨_, SqT.of ht⟩, fun D nD => ?_⟩
    refine lc_tup (K := K) (a := t) (xs := ys) (fun i Hz => Hz = upd H D (.lst (((ds.take i).map txC).map V.str))) rfl (fun i Hz _ e => by rw [e]; exact SqT.of ((same_new nD) _ _ ht)) ?_ ?_
    · rintro i y Hz hy rfl
      obtain ⟨p, r, rfl, er, hp⟩ := pairs_get pa hy
      have hp2 := (same_new (o := .lst (((ds.take i).map txC).map V.str)) nD) _ _ hp
      have hr := hb r (List.mem_of_getElem? er)
      refine ⟨p, _, rfl, SqT.of hp2, rfl, .int r.1, [.int r.2], rfl, .int r.2, [], rfl, rfl, rfl, iteT (B := True) ?_⟩
      have h0 : (Str.empty).length = 0 := rfl
      have l1 := ti_len hr.1
      have l2 := ti_len hr.2
      have hc := col_len
      have sl : ∀ {n : Nat}, n ≤ 100 → n ≤ sizeLine := fun h => Nat.le_trans h (by decide)
      refine ⟨.int r.1, rfl, .inr ⟨r.1, rfl, ti_log hr.1, ti r.1, rfl, sl (by rw [len_app]; omega), ":", rfl, sl (by rw [len_app, len_app]; omega), .int r.2, rfl, .inr ⟨r.2, rfl, ti_log hr.2, ti r.2, rfl, sl (by rw [len_app, len_app, len_app]; omega), _, upd_same, ?_, ?_⟩⟩⟩
      · rw [List.length_map, List.length_map, List.length_take]
        exact Nat.lt_of_le_of_lt (show _ ≤ 2500 by omega) (by decide)
      · rw [upd_upd, List.take_add_one, er, List.map_append, List.map_append]
        rfl
    rintro Hz rfl
    rw [hl, List.take_length]
    refine ⟨_, D, ds.map txC, rfl, rfl, .inl (SqL.of upd_same), ?_, ?_⟩
    · have h1 := sum_le (B := 27) (xs := ds.map txC) fun x hx => by
        obtain ⟨r, hr, e⟩ := List.mem_map.mp hx
        rw [← e]
        exact txC_len (hb r hr)
      have h2 : ((" " : Str)).length = 1 := by decide +kernel
      rw [h2, List.length_map] at *
      omega
    · have := q _ (same_new (o := .lst ((ds.map txC).map V.str)) nD)
      unfold rowC at this
      rw [if_neg hd] at this
      exact this
def spPRw (K : PySem.W.Frag) : Sp := fun vs H Q _ => ∃ (t : Addr) (rs : List Int), vs = [.ref t] ∧ H t = some (.tup (rs.map V.int)) ∧ rs.length ≤ 2500 ∧ (∀ r ∈ rs, r.natAbs < 2 ^ 39) ∧ ∀ H', Same H H' → Q (.str (rowP rs)) H'
theorem ok_PRw {f : Addr} {fd : FuncData} {k : Nat} (F : Fun K "points_row" "points_row" sPRw f fd) (gN : ∃ u, mg "NOTHING" = some u ∧ RelV (.str "none") u) (ms : mg "str" = none) : FnOk P w K mg base CX0 (k + 1) f fd ["points"] (spPRw K) := by
  refine F.ok scPRw (fun vs H Q E h => ?_) (fun cdv A outer s H vs Q E hr h => ?_)
  · obtain ⟨t, rs, rfl, _⟩ := h
    rfl
  · obtain ⟨t, rs, rfl, ht, ld, hb, q⟩ := h
    refine ⟨_, pss_one (ps_ret (pe_ifExp (pt_truth (pv 0) (by intro _; rfl)) (pe_join pe_str (pe_lc (own := [("point", 1)]) (g := gName 1) rfl scPRw.nd (pi_tup (pv 0)) (blkOk_by (own := [("point", 1)]) (N := ["points", "point"]) (sc := defScope sPRw) (by decide +kernel))
        (fun _ _ _ _ _ => pg_name (i := 1) scPRw.nd rfl (Or.inl rfl) (Or.inr rfl)) (fun _ _ _ _ _ => pts_nil)
        (fun _ _ _ _ _ => pe_callTy call_str_int (by rfl) ms (by decide +kernel) (pa_cons (pv 1) pa_nil)))) (C8.pe_gc (v := .str "none") (by rfl) gN))), ?_⟩
    refine ⟨.ref t, rfl, !(rs.map V.int).isEmpty, .inr (.inl ⟨_, SqT.of ht, rfl⟩), ?_⟩
    by_cases hd : rs = []
    · subst hd
      exact iteF (q H (Same.refl H))
    have he : (!(rs.map V.int).isEmpty) = true := by
      cases rs with
      | nil => exact absurd rfl hd
      | cons _ _ => rfl
    rw [he]
    refine iteT ⟨⟨_, rfl⟩, .ref t, rfl, t, rfl, ⟨_, SqT.of ht⟩, fun D nD => ?_⟩
    refine lc_tup (K := K) (a := t) (xs := rs.map V.int) (fun i Hz => Hz = upd H D (.lst (((rs.take i).map ti).map V.str))) rfl (fun i Hz _ e => by rw [e]; exact SqT.of ((same_new nD) _ _ ht)) ?_ ?_
    · rintro i y Hz hy rfl
      obtain ⟨r, er, rfl⟩ := int_at hy
      have hr := hb r (List.mem_of_getElem? er)
      refine ⟨rfl, iteT (B := True) ⟨.int r, rfl, r, rfl, ti_log hr, _, upd_same, ?_, ?_⟩⟩
      · rw [List.length_map, List.length_map, List.length_take]
        exact Nat.lt_of_le_of_lt (show _ ≤ 2500 by omega) (by decide)
      · rw [upd_upd, List.take_add_one, er, List.map_append, List.map_append]
        rfl
    rintro Hz rfl
    rw [List.length_map, List.take_length]
    refine ⟨_, D, rs.map ti, rfl, rfl, .inl (SqL.of upd_same), ?_, ?_⟩
    · have h1 := sum_le (B := 13) (xs := rs.map ti) fun x hx => by
        obtain ⟨r, hr, e⟩ := List.mem_map.mp hx
        rw [← e]
        exact ti_len (hb r hr)
      have h2 : ((" " : Str)).length = 1 := by decide +kernel
      rw [h2, List.length_map] at *
      omega
    · have := q _ (same_new (o := .lst ((rs.map ti).map V.str)) nD)
      unfold rowP at this
      rw [if_neg hd] at this
      exact this
theorem none_len : (("none" : Str)).length = 4 := by decide +kernel
theorem rowC_len {ds : List (Int × Int)} (ld : ds.length ≤ 2500) (hb : ∀ r ∈ ds, r.1.natAbs < 2 ^ 39 ∧ r.2.natAbs < 2 ^ 39) : (rowC ds).length ≤ 100000 := by
  unfold rowC
  split
  · rw [none_len]; omega
  · have h := join_len (sep := " ") (B := 27) (xs := ds.map txC) fun x hx => by
      obtain ⟨r, hr, e⟩ := List.mem_map.mp hx
      rw [← e]
      exact txC_len (hb r hr)
    have h2 : ((" " : Str)).length = 1 := by decide +kernel
    rw [h2, List.length_map] at h
    omega
theorem rowP_len {rs : List Int} (ld : rs.length ≤ 2500) (hb : ∀ r ∈ rs, r.natAbs < 2 ^ 39) : (rowP rs).length ≤ 100000 := by
  unfold rowP
  split
  · rw [none_len]; omega
  · have h := join_len (sep := " ") (B := 13) (xs := rs.map ti) fun x hx => by
      obtain ⟨r, hr, e⟩ := List.mem_map.mp hx
      rw [← e]
      exact ti_len (hb r hr)
    have h2 : ((" " : Str)).length = 1 := by decide +kernel
    rw [h2, List.length_map] at h
    omega
/-- a count whose text can be written -/
def Small (ds : List (Int × Int)) (rs : List Int) : Prop := ds.length ≤ 2500 ∧ rs.length ≤ 2500 ∧ (∀ r ∈ ds, r.1.natAbs < 2 ^ 39 ∧ r.2.natAbs < 2 ^ 39) ∧ ∀ r ∈ rs, r.natAbs < 2 ^ 39
def spST (C : Addr) : Sp := fun vs H Q _ => ∃ (x : Addr) (ds : List (Int × Int)) (rs : List Int), vs = [.ref x] ∧ CountAt H C x ds rs ∧ Small ds rs ∧ ∀ H', Same H H' → Q (.str (txt ds rs)) H'
theorem ok_ST {C f fC fP : Addr} {fd dC dP : FuncData} {k : Nat} (F : Fun K "__str__" "Count.__str__" sST f fd) (T : Cnt K C) (GC : FnOk P w K mg base CX0 (k + 1) fC dC ["cycles"] (spCR K)) (gC : mg "cycles_row" = some (.ref fC)) (kC : PySem.W.keepIn K (.ref fC) = true) (bC : Binds K dC ["cycles"] [])
    (GP : FnOk P w K mg base CX0 (k + 1) fP dP ["points"] (spPRw K)) (gP : mg "points_row" = some (.ref fP)) (kP : PySem.W.keepIn K (.ref fP) = true) (bP : Binds K dP ["points"] []) : FnOk P w K mg base CX0 (k + 2) f fd ["self"] (spST C) := by
  refine F.ok scST (fun vs H Q E h => ?_) (fun cdv A outer s H vs Q E hr h => ?_)
  · obtain ⟨x, ds, rs, rfl, _⟩ := h
    rfl
  · obtain ⟨x, ds, rs, rfl, ⟨dx, t1, t2, ys, h1, h2, h3, h4⟩, ⟨b1, b2, b3, b4⟩, q⟩ := h
    refine ⟨_, pss_one (ps_ret (pe_join pe_str (pe_lst (pa_cons (pe_call GC hr (by rfl) gC kC bC .nil pass0 (pa_cons (pe_fld (pv 0) rfl) pa_nil)) (pa_cons (pe_call GP hr (by rfl) gP kP bP .nil pass0 (pa_cons (pe_fld (pv 0) rfl) pa_nil)) pa_nil))))), ?_⟩
    refine ⟨⟨_, rfl⟩, .ref x, rfl, x, C, dx, _, .ref t1, rfl, h1, T.cl, T.nC, rfl, t1, ys, ds, rfl, h2, h3, b1, b3, fun H1 s1 => ?_⟩
    refine ⟨.ref x, rfl, x, C, dx, _, .ref t2, rfl, s1 _ _ h1, T.cl, T.nR, rfl, t2, rs, rfl, s1 _ _ h4, b2, b4, fun H2 s2 => ⟨by show 2 ≤ sizeLine; decide, fun l nl => ?_⟩⟩
    refine ⟨_, l, [rowC ds, rowP rs], rfl, rfl, .inl (SqL.of upd_same), ?_, q _ (s1.trans (s2.trans (same_new nl)))⟩
    have l1 := rowC_len b1 b3
    have l2 := rowP_len b2 b4
    have h2 : (("\n" : Str)).length = 1 := by decide +kernel
    rw [h2]
    show (rowC ds).length + ((rowP rs).length + 0) + 2 * 1 ≤ _
    omega
/-- == of a count and a thing of another type -/
def spEQo (K : PySem.W.Frag) (C : Addr) : Sp := fun vs H Q _ => ∃ (x : Addr) (y : V) (t : Value), vs = [.ref x, y] ∧ TyX K H y t ∧ PySem.W.kitOne K t (.ref C) = some false ∧ Q (.bl false) H
theorem ok_EQo {C f : Addr} {fd : FuncData} {k : Nat} (F : Fun K "__eq__" "Count.__eq__" sEQ f fd) (T : Cnt K C) (S : C8.InsC K C) (gC : mg "Count" = some (.ref C)) (mi : mg "isinstance" = none) : FnOk P w K mg base CX0 (k + 1) f fd ["self", "other"] (spEQo K C) := by
  refine F.ok scEQ (fun vs H Q E h => ?_) (fun cdv A outer s H vs Q E hr h => ?_)
  · obtain ⟨x, y, t, rfl, _⟩ := h
    rfl
  · obtain ⟨x, y, t, rfl, ty, kt, hq⟩ := h
    refine ⟨_, pss_one (ps_ret (pe_and (pe_callB call_isi (by rfl) mi (by decide +kernel) (pa_cons (pv 1) (pa_cons (pe_glob (v := .ref C) (by rfl) gC rfl) pa_nil)))
      (pe_and (pe_cmpR (op_eqD hr.units) (pe_fld (pv 0) rfl) (pe_fld (pv 1) rfl) (nomark _)) (pe_one (pe_cmpR (op_eqD hr.units) (pe_fld (pv 0) rfl) (pe_fld (pv 1) rfl) (nomark _)))))), ?_⟩
    exact ⟨y, rfl, y, .ref C, t, .ref C, false, rfl, .own C, ty, kt, false, rfl, iteF hq⟩
def spEQa (K : PySem.W.Frag) (C : Addr) : Sp := fun vs H Q E => spEQ C vs H Q E ∨ spEQo K C vs H Q E
end
end WN

/-! the once-repeated readings, from a place on -/
namespace KP
open PM
theorem drop_at {ns : List Int} {i : Nat} {r : Int} (h : ns[i]? = some r) : ns.drop i = r :: ns.drop (i + 1) := by
  obtain ⟨h1, h2⟩ := List.getElem?_eq_some_iff.mp h
  rw [List.drop_eq_getElem_cons h1, h2]
/-- what is left of the once-repeated readings from the i-th on -/
def ddr (ns : List Int) : Nat → List Int
  | 0 => dd ns
  | i + 1 => match ns[i]? with
    | some p => ddf p (ns.drop (i + 1))
    | none => []
theorem ddr_first {ns : List Int} {r : Int} (h : ns[0]? = some r) : ddr ns 0 = r :: ddr ns 1 := by
  cases ns with
  | nil => simp at h
  | cons a l =>
    have e : a = r := Option.some.inj h
    subst e
    rfl
theorem ddr_next {ns : List Int} {i : Nat} {p r : Int} (hp : ns[i]? = some p) (h : ns[i + 1]? = some r) : ddr ns (i + 1) = if r = p then ddr ns (i + 2) else r :: ddr ns (i + 2) := by
  show (match ns[i]? with | some p => ddf p (ns.drop (i + 1)) | none => []) = if r = p then (match ns[i + 1]? with | some p => ddf p (ns.drop (i + 2)) | none => []) else r :: (match ns[i + 1]? with | some p => ddf p (ns.drop (i + 2)) | none => [])
  rw [hp, h, drop_at h]
  dsimp only
  simp only [ddf]
  by_cases e : r = p
  · rw [if_pos e, if_pos e, e]
  · rw [if_neg e, if_neg e]
theorem ddr_end (ns : List Int) : ddr ns ns.length = [] := by
  cases h : ns.length with
  | zero =>
    have : ns = [] := List.length_eq_zero_iff.mp h
    rw [this]
    rfl
  | succ n =>
    show (match ns[n]? with | some p => ddf p (ns.drop (n + 1)) | none => []) = []
    have hn : n < ns.length := by omega
    rw [List.getElem?_eq_getElem hn, List.drop_eq_nil_of_le (by omega)]
    rfl
theorem dd_len : ∀ ns : List Int, (dd ns).length ≤ ns.length
  | [] => Nat.le_refl _
  | a :: l => by
    have h : ∀ (l : List Int) (p : Int), (ddf p l).length ≤ l.length := by
      intro l
      induction l with
      | nil => intro p; exact Nat.le_refl _
      | cons x l ih =>
        intro p
        simp only [ddf, List.length_cons]
        split
        · have := ih p; omega
        · have := ih x; rw [List.length_cons]; omega
    have := h l a
    simp only [dd, List.length_cons]
    omega
end KP

/-! the law's own points -/
namespace WF2
open PySem PySem.Spec PyProof.Rows L2 KA PH PM PA PB PC
open KP hiding drop_at
abbrev sLP : Stmt := topS 27
theorem scLP : FnScope ["load", "k", "once", "found"] ["load"] (defScope sLP) := ⟨rfl, rfl, rfl, by decide +kernel, rfl, by decide +kernel, by decide +kernel⟩
def Finv (o : List Int) (j : Nat) (fnd : List Int) : Prop := (o.length ≤ 1 ∧ fnd = o) ∨ (∃ p c, o[j]? = some p ∧ o[j + 1]? = some c ∧ lp o = fnd ++ lq p c (o.drop (j + 2)))
theorem finv_start (o : List Int) : Finv o 0 (o.take 1) := by
  match o with
  | [] => exact .inl ⟨Nat.zero_le _, rfl⟩
  | [x] => exact .inl ⟨Nat.le_refl _, rfl⟩
  | x :: y :: l => exact .inr ⟨x, y, rfl, rfl, rfl⟩
theorem drop_cons {o : List Int} {i : Nat} {r : Int} (h : o[i]? = some r) : o.drop i = r :: o.drop (i + 1) := drop_at h
section
variable {P : Program} {w : World} {K : PySem.W.Frag} {mg : Str → Option Value} {base : Heap}
def spLP (K : PySem.W.Frag) : Sp := fun vs H Q _ => ∃ (a : Addr) (ns : List Int), vs = [.ref a] ∧ SqL K H a (ns.map V.int) ∧ ns.length ≤ 2500 ∧ ∀ H' p, Same H H' → H p = none → H' p = some (.lst ((tp ns).map V.int)) → Q (.ref p) H'
theorem ok_LP {f : Addr} {fd : FuncData} {k : Nat} (F : Fun K "_law_points" "_law_points" sLP f fd) (ml : mg "len" = none) (mr : mg "range" = none) (mi : mg "int" = none) : FnOk P w K mg base CX0 (k + 1) f fd ["load"] (spLP K) := by
  refine F.ok scLP (fun vs H Q E h => ?_) (fun cdv A outer s H vs Q E hr h => ?_)
  · obtain ⟨a, ns, rfl, _⟩ := h
    rfl
  · obtain ⟨a, ns, rfl, hS, hlen, hq⟩ := h
    refine ⟨_, pss_cons (ps_setLc (i := 2) (own := [("k", 1)]) (g := gName 1) (tt := tOr (tTest (tOp rEq (tVar 1) (tC (V.int 0)))) (tTest (tOp rNe (tOp (rIxL K) (tVar 0) (tVar 1)) (tOp (rIxL K) (tVar 0) (tOp (rI0 fun i j => .int (i - j)) (tVar 1) (tC (V.int 1))))))) (te := tOp (rIxL K) (tVar 0) (tVar 1)) rfl scLP.nd rfl rfl (sw_true rfl rfl rfl (by decide +kernel)) (pi_range1 rfl mr (pa_cons (pe_callB call_len_seq (by rfl) ml PySem.boot_len (pa_cons (pv 0) pa_nil)) pa_nil))
        (blkOk_by (own := [("k", 1)]) (N := ["load", "k", "once", "found"]) (sc := defScope sLP) (by decide +kernel))
        (fun _ _ _ _ _ => pg_name (i := 1) scLP.nd rfl (Or.inl rfl) (Or.inr rfl))
        (fun _ _ _ _ _ => pts_one (PW.pt (pw_or (pt_cmpR op_eq (pv 1) pe_int (nomark _)) (pw_or1 (pt_cmpR op_ne (pe_ix ix_list (pv 0) (pv 1) (fun _ _ => rfl)) (pe_ix ix_list (pv 0) (pe_op op_sub (pv 1) pe_int) (fun _ _ => rfl)) (nomark _))))))
        (fun _ _ _ _ _ => pe_ix ix_list (pv 0) (pv 1) (fun _ _ => rfl)))
      (pss_cons (ps_set (i := 3) scLP.nd rfl (.inl rfl) (pe_slice sl_list (pv 2) po_none (po_some pe_int)))
      (pss_cons (ps_for PassesOwn.never rfl (pi_range2 (by rfl) mr (pa_cons pe_int (pa_cons (pe_op op_sub (pe_callB call_len_seq (by rfl) ml PySem.boot_len (pa_cons (pv 2) pa_nil)) pe_int) pa_nil))) (pg_name (i := 1) scLP.nd rfl (.inl rfl))
        (pss_one (ps_if (pt_cmpR op_eq (pe_cmpR op_gt (pe_ix ix_list (pv 2) (pv 1) (fun _ _ => rfl)) (pe_ix ix_list (pv 2) (pe_op op_sub (pv 1) pe_int) (fun _ _ => rfl)) (nomark _)) (pe_cmpR op_gt (pe_ix ix_list (pv 2) (pv 1) (fun _ _ => rfl)) (pe_ix ix_list (pv 2) (pe_op op_add (pv 1) pe_int) (fun _ _ => rfl)) (nomark _)) (nomark _))
          (pss_one (ps_expr (pe_bm PySem.F.plainAttrs_list PySem.F.slot_list_append PySem.F.type_list_append mt_append (pv 3) (pa_cons (pe_ix ix_list (pv 2) (pv 1) (fun _ _ => rfl)) pa_nil)))) pss_nil)))
      (pss_one (ps_ret (pe_op op_cat (pv 3) (pe_slice sl_list (pv 2) (po_some (pe_op op_sub (pe_callB call_len_seq (by rfl) ml PySem.boot_len (pa_cons (pv 2) pa_nil)) (pe_callTy call_int1 (by rfl) mi (by decide +kernel) (pa_cons (pe_cmpR op_gt (pe_callB call_len_seq (by rfl) ml PySem.boot_len (pa_cons (pv 2) pa_nil)) pe_int (nomark _)) pa_nil)))) po_none)))))), ?_⟩
    have hml : (ns.map V.int).length = ns.length := List.length_map _
    refine ⟨.ref a, rfl, a, ns.map V.int, rfl, .inl hS, ((ns.map V.int).length : Int), rfl, by rw [hml]; omega, by rw [hml]; omega, fun D nD => ?_⟩
    have sD : ∀ o, Same H (upd H D o) := fun o => same_new nD
    refine lc_range (lo := 0) (n := (((ns.map V.int).length : Int)).toNat) (fun i H' => ∃ acc : List Int, H' = upd H D (.lst (acc.map V.int)) ∧ acc.length ≤ i ∧ dd ns = acc ++ ddr ns i) ?_ ?_ ?_
    · exact ⟨[], rfl, Nat.le_refl _, rfl⟩
    · rintro i H' hi ⟨acc, rfl, hal, hac⟩
      have hin : i < ns.length := by omega
      have ei : ns[i]? = some ns[i] := List.getElem?_eq_getElem hin
      have ax : atI (ns.map V.int) (0 + (i : Int)) = some (.int ns[i]) := at_of (by omega) (at_int ei)
      have elt : acc.length < sizeLine := small3000 (by omega)
      have grow : ∀ x : Int, upd (upd H D (.lst (acc.map V.int))) D (.lst (acc.map V.int ++ [.int x])) = upd H D (.lst ((acc ++ [x]).map V.int)) := fun x => by rw [upd_upd, List.map_append]; rfl
      refine ⟨rfl, .int (0 + (i : Int)), rfl, rfl, _, rfl, ?_⟩
      cases i with
      | zero =>
        refine iteT (iteT ⟨.ref a, rfl, _, rfl, a, _, _, .int ns[0], rfl, rfl, (sD _).seq hS, ax, acc.map V.int, upd_same, by rw [List.length_map]; exact elt, acc ++ [ns[0]], grow _, by rw [List.length_append, List.length_singleton]; omega, ?_⟩)
        rw [hac, ddr_first ei, List.append_assoc]
        rfl
      | succ m =>
        have hne : decide (V.int (0 + ((m + 1 : Nat) : Int)) = V.int 0) = false := decide_eq_false fun z => by have := V.int.inj z; omega
        rw [hne]
        have hm : m < ns.length := by omega
        have em : ns[m]? = some ns[m] := List.getElem?_eq_getElem hm
        have nx := ddr_next em ei
        refine iteF ⟨.ref a, rfl, .int (0 + ((m + 1 : Nat) : Int)), rfl, a, _, _, .int ns[m + 1], rfl, rfl, (sD _).seq hS, ax, .ref a, rfl, .int (0 + ((m + 1 : Nat) : Int)), rfl, _, 1, rfl, rfl, a, _, _, .int ns[m], rfl, rfl, (sD _).seq hS, at_of (by omega) (at_int em), rfl, _, rfl, ?_⟩
        by_cases e : ns[m + 1] = ns[m]
        · rw [decide_eq_true (show V.int ns[m + 1] = V.int ns[m] by rw [e])]
          refine iteF ⟨acc, rfl, by omega, ?_⟩
          rw [if_pos e] at nx
          rw [hac, nx]
        · rw [decide_eq_false (show ¬ V.int ns[m + 1] = V.int ns[m] from fun z => e (V.int.inj z))]
          refine iteT ⟨.ref a, rfl, _, rfl, a, _, _, .int ns[m + 1], rfl, rfl, (sD _).seq hS, ax, acc.map V.int, upd_same, by rw [List.length_map]; exact elt, acc ++ [ns[m + 1]], grow _, by rw [List.length_append, List.length_singleton]; omega, ?_⟩
          rw [if_neg e] at nx
          rw [hac, nx, List.append_assoc]
          rfl
    rintro H' ⟨acc, rfl, hal, hac⟩
    have en : (((ns.map V.int).length : Int)).toNat = ns.length := by rw [hml]; omega
    rw [en, ddr_end, List.append_nil] at hac
    subst hac
    generalize ho : dd ns = o
    have hol : o.length ≤ 2500 := by rw [← ho]; exact Nat.le_trans (dd_len ns) hlen
    have hom : (o.map V.int).length = o.length := List.length_map _
    -- found
    refine ⟨.ref D, rfl, 1, rfl, D, o.map V.int, rfl, SqL.of upd_same, fun c nc => ?_⟩
    have ncD : c ≠ D := fun z => by rw [z, upd_same] at nc; cases nc
    have hc0 : H c = none := (sD _).free nc
    have e1 : cutV (o.map V.int) none (some 1) = (o.take 1).map V.int := by
      rw [show (some (1 : Int)) = some ((1 : Nat) : Int) from rfl, cut_to, List.map_take]
    rw [e1]
    have onD : ∀ u, (upd (upd H D (.lst (o.map V.int))) c u) D = some (.lst (o.map V.int)) := fun u => by rw [upd_ne ncD.symm, upd_same]
    refine ⟨.ref D, rfl, D, o.map V.int, rfl, .inl (SqL.of (onD _)), _, 1, rfl, rfl, 1, _, rfl, ⟨by decide, by decide, by rw [hom]; omega, by rw [hom]; omega⟩, for_range (lo := 1) (n := ((((o.map V.int).length : Int) - 1) - 1).toNat)
      (fun j σ H' => ∃ (fnd : List Int) (r1 : Option V), σ = [some (.ref a), r1, some (.ref D), some (.ref c)] ∧ H' = upd (upd H D (.lst (o.map V.int))) c (.lst (fnd.map V.int)) ∧ Finv o j fnd ∧ fnd.length ≤ j + 1) ?_ ?_ ?_⟩
    · exact ⟨o.take 1, _, rfl, rfl, finv_start o, by rw [List.length_take]; omega⟩
    · rintro j σ H' hj ⟨fnd, r1, rfl, rfl, inv, hfl⟩
      rw [hom] at hj
      rcases inv with ⟨h1, _⟩ | ⟨p, cc, hp, hcc, hlp⟩
      · omega
      · have hj2 : j + 2 < o.length := by omega
        have hd : o[j + 2]? = some o[j + 2] := List.getElem?_eq_getElem hj2
        have dc := drop_cons hd
        refine ⟨.ref D, rfl, .int (1 + (j : Int)), rfl, D, _, _, .int cc, rfl, rfl, SqL.of (onD _), at_of (j := j + 1) (by omega) (at_int hcc), .ref D, rfl, .int (1 + (j : Int)), rfl, _, 1, rfl, rfl, D, _, _, .int p, rfl, rfl, SqL.of (onD _), at_of (j := j) (by omega) (at_int hp), cc, p, rfl, rfl, ?_⟩
        refine ⟨.ref D, rfl, .int (1 + (j : Int)), rfl, D, _, _, .int cc, rfl, rfl, SqL.of (onD _), at_of (j := j + 1) (by omega) (at_int hcc), .ref D, rfl, .int (1 + (j : Int)), rfl, _, 1, rfl, rfl, D, _, _, .int o[j + 2], rfl, rfl, SqL.of (onD _), at_of (j := j + 2) (by omega) (at_int hd), cc, o[j + 2], rfl, rfl, rfl, _, rfl, ?_⟩
        rw [dc] at hlp
        simp only [lq] at hlp
        by_cases e : decide (cc > p) = decide (cc > o[j + 2])
        · rw [decide_eq_true (show V.bl (decide (cc > p)) = V.bl (decide (cc > o[j + 2])) by rw [e])]
          rw [if_pos e] at hlp
          refine iteT ⟨.ref c, rfl, .inl ⟨rfl, _, SqL.of upd_same⟩, .ref D, rfl, .int (1 + (j : Int)), rfl, D, _, _, .int cc, rfl, rfl, SqL.of (onD _), at_of (j := j + 1) (by omega) (at_int hcc), c, _, _, rfl, rfl, upd_same, by rw [List.length_map]; exact small3000 (by omega),
            fnd ++ [cc], _, rfl, by rw [upd_upd, List.map_append]; rfl, .inr ⟨cc, o[j + 2], hcc, hd, by rw [hlp, List.append_assoc]; rfl⟩, by rw [List.length_append, List.length_singleton]; omega⟩
        · rw [decide_eq_false (show ¬ V.bl (decide (cc > p)) = V.bl (decide (cc > o[j + 2])) from fun z => e (V.bl.inj z))]
          rw [if_neg e] at hlp
          exact iteF ⟨fnd, _, rfl, rfl, .inr ⟨cc, o[j + 2], hcc, hd, hlp⟩, by omega⟩
    · rintro σ H' ⟨fnd, r1, rfl, rfl, inv, hfl⟩
      refine ⟨.ref c, rfl, .ref D, rfl, .ref D, rfl, D, o.map V.int, rfl, .inl (SqL.of (onD _)), .ref D, rfl, D, o.map V.int, rfl, .inl (SqL.of (onD _)), _, 1, rfl, rfl, .inr ⟨_, rfl, _, _, rfl, rfl, _, rfl, D, o.map V.int, rfl, SqL.of (onD _), fun e ne => ?_⟩⟩
      have nec : c ≠ e := fun z => by rw [← z, upd_same] at ne; cases ne
      obtain ⟨z, hz, tail⟩ : ∃ z : Nat, (((o.map V.int).length : Int) - (if decide (((o.map V.int).length : Int) > 1) = true then 1 else 0)) = (z : Int) ∧ fnd ++ o.drop z = lp o := by
        rw [hom] at *
        rcases inv with ⟨h1, h2⟩ | ⟨p, cc, hp, hcc, hlp⟩
        · refine ⟨o.length, ?_, ?_⟩
          · rw [if_neg (by rw [decide_eq_true_eq]; omega)]
            omega
          · rw [h2, List.drop_length, List.append_nil]
            match o, h1 with
            | [], _ => rfl
            | [_], _ => rfl
        · have h2 : 2 ≤ o.length := by have := (List.getElem?_eq_some_iff.mp hcc).1; omega
          have ej : ((((o.length : Int) - 1) - 1).toNat) = o.length - 2 := by omega
          rw [ej] at hp hcc hlp
          have e3 : o.length - 2 + 2 = o.length := by omega
          have e4 : o.length - 2 + 1 = o.length - 1 := by omega
          rw [e3, List.drop_length] at hlp
          rw [e4] at hcc
          refine ⟨o.length - 1, ?_, ?_⟩
          · rw [if_pos (decide_eq_true (by omega))]
            omega
          · rw [hlp, drop_cons hcc, List.drop_eq_nil_of_le (by omega)]
            rfl
      have et : cutV (o.map V.int) (some (((o.map V.int).length : Int) - (if decide (((o.map V.int).length : Int) > 1) = true then 1 else 0))) none = (o.drop z).map V.int := by rw [hz, cut_from, List.map_drop]
      have sE : Same H (upd (upd (upd H D (.lst (o.map V.int))) c (.lst (fnd.map V.int))) e (.lst (cutV (o.map V.int) (some (((o.map V.int).length : Int) - (if decide (((o.map V.int).length : Int) > 1) = true then 1 else 0))) none))) :=
        ((sD _).trans (same_new nc)).trans (same_new ne)
      have lf : (fnd.map V.int).length ≤ 2501 := by rw [List.length_map]; rw [hom] at hfl; omega
      have lt : ((o.drop z).map V.int).length ≤ 2500 := by rw [List.length_map, List.length_drop]; omega
      refine ⟨c, e, fnd.map V.int, (o.drop z).map V.int, rfl, rfl, by rw [upd_ne nec, upd_same], by rw [upd_same]; exact congrArg (fun u => some (HO.lst u)) et, Nat.le_of_lt (Nat.lt_of_le_of_lt (Nat.add_le_add lf lt) (by decide)), fun g ng => ?_⟩
      refine hq _ g (sE.trans (same_new ng)) (sE.free ng) ?_
      rw [upd_same, ← List.map_append, tail, tp_lp, ho]
end
end WF2

/-! a call of a def that wants to know that no repr is under way -/
namespace GK
open PySem PySem.Spec PyProof.Rows L2 KW
section
variable {X : Cx} {k : Nat} {f : Addr} {fd : FuncData} {ps : List Str} {sp : Sp} {dvs : List V} {ds : List Value} {E : XK} {x : Str} {p pos : Pos} {e : Expr} {es : List Expr} {t : TA}
theorem pe_callG (F : Kept X.prog X.w X.K X.mg X.base k f fd ps sp) (hgd : X.A.guards = some []) (len : ∀ vs H Q E, sp vs H Q E → vs.length = ps.length) (hr : Room k X.A) (hg : Gl X x) (hm : X.mg x = some (.ref f)) (hk : PySem.W.keepIn X.K (.ref f) = true) (hb : Binds X.K fd ps ds) (hd : Vals dvs ds) (hx : Passes CX0 X E)
    (ha : PA X (e :: es) t) (hdb : (x == ("__debug__" : Str)) = false := by decide) (he : starEach (e :: es) X.env = (false, eval e X.env) :: starEach es X.env := by rfl) (hpl : (backTo pos (starEach es X.env)).any (·.1) = false := by rfl) :
    PE X (.Call (.Name x p) (e :: es) [] pos) (tCall sp dvs E t) := by
  refine ⟨fun pins s σ H Q I h => ?_⟩
  refine wpAny_Call_Name_kw (ld_glob I hg hm ?_ hdb)
  refine PySem.W.callWith_K (h₀ := X.base) I.ok.mod.kin hk (thn (ha.run pos pins s σ H _ I h) fun us s1 ⟨vs, H1, I1, r, q⟩ => ⟨I1.kIn, ?_⟩) he hpl
  have r2 : Vals (vs ++ dvs) (us ++ ds) := r.append hd
  have hl : (us ++ ds).length = ps.length := by rw [← r2.length]; exact len _ _ _ _ q
  refine wpAny_call (codeAny_mono (F X.A X.stack s1 H1 ⟨us, []⟩ (us ++ ds) (vs ++ dvs) Q E hgd hr I1.env0 (hb s1 us I1.kIn hl) r2 q) fun r s' hq => ?_)
  cases r with
  | error e => exact hx pins σ H1 s1 e s' I1 hq
  | ok fl =>
    cases fl with
    | ret u => exact I1.after hq
    | next => exact False.elim hq
    | brk => exact False.elim hq
    | cont => exact False.elim hq
end
end GK

/-! k04's own defs: ranges, places, the count, the halves -/
namespace WP
open PySem PySem.Spec PyProof.Rows L2 KA KD KL PH PM PA PB PC RM RN QE QF QG QH QK QL WN WF2
abbrev sLR : Stmt := topS 28
abbrev sLH : Stmt := topS 29
abbrev sPl : Stmt := topS 30
abbrev sCt : Stmt := topS 31
abbrev sHv : Stmt := topS 32
theorem scLR : FnScope ["one", "other"] ["one", "other"] (defScope sLR) := ⟨rfl, rfl, rfl, by decide +kernel, rfl, by decide +kernel, by decide +kernel⟩
theorem scLH : FnScope ["outer", "inner"] ["outer", "inner"] (defScope sLH) := ⟨rfl, rfl, rfl, by decide +kernel, rfl, by decide +kernel, by decide +kernel⟩
theorem scPl : FnScope ["points", "found", "k", "inner"] ["points"] (defScope sPl) := ⟨rfl, rfl, rfl, by decide +kernel, rfl, by decide +kernel, by decide +kernel⟩
theorem scCt : FnScope ["feed", "load", "points", "cycles", "point"] ["feed", "load"] (defScope sCt) := ⟨rfl, rfl, rfl, by decide +kernel, rfl, by decide +kernel, by decide +kernel⟩
theorem scHv : FnScope ["cycles", "rest", "found", "k"] ["cycles", "rest"] (defScope sHv) := ⟨rfl, rfl, rfl, by decide +kernel, rfl, by decide +kernel, by decide +kernel⟩
theorem cutv_to (xs : List V) (j : Nat) : cutV xs none (some (j : Int)) = xs.take j := by
  unfold cutV
  rw [HT.sIx_nat xs.length xs.length j, HT.sIx_none]
  rw [List.drop_zero, Nat.sub_zero]
  by_cases h : j ≤ xs.length
  · rw [Nat.min_eq_left h]
  · rw [Nat.min_eq_right (by omega), List.take_length, List.take_of_length_le (by omega)]
theorem cutv_from (xs : List V) (j : Nat) : cutV xs (some (j : Int)) none = xs.drop j := by
  unfold cutV
  rw [HT.sIx_nat xs.length 0 j, HT.sIx_none]
  by_cases h : j ≤ xs.length
  · rw [Nat.min_eq_left h, List.take_of_length_le (by rw [List.length_drop]; exact Nat.le_refl _)]
  · rw [Nat.min_eq_right (by omega), Nat.sub_self, List.take_zero, List.drop_of_length_le (by omega)]
theorem Ch.tup {f t : Addr} {H H' : Hp} {xs : List V} (c : Ch f H H') (fe : FeedAt H f) (h : H t = some (.tup xs)) : H' t = some (.tup xs) := by
  refine c _ _ (fun z => ?_) h
  obtain ⟨d, st, _, _, _, e⟩ := fe
  rw [z, e] at h
  cases h
theorem pairs_but {E : Addr} {H H' : Hp} {acc : List V} (k : ∀ b o, b ≠ E → H b = some o → H' b = some o) (hE : H E = some (.lst acc)) : ∀ {xs : List V} {rs : List (Int × Int)}, PairsAt H xs rs → PairsAt H' xs rs
  | [], [], _ => trivial
  | x :: xs, r :: rs, ⟨⟨p, h1, h2⟩, h3⟩ => ⟨⟨p, h1, k _ _ (fun z => by rw [z, hE] at h2; cases h2) h2⟩, pairs_but k hE h3⟩
  | [], _ :: _, h => h.elim
  | _ :: _, [], h => h.elim
theorem pairs_ch {f : Addr} {H H' : Hp} (c : Ch f H H') (fe : FeedAt H f) {xs : List V} {rs : List (Int × Int)} (h : PairsAt H xs rs) : PairsAt H' xs rs := by
  obtain ⟨d, st, _, _, _, e⟩ := fe
  exact pairs_but c e h
theorem CountAt.but {H H' : Hp} {E C x : Addr} {acc : List V} {ds : List (Int × Int)} {rs : List Int} (h : CountAt H C x ds rs) (k : ∀ b o, b ≠ E → H b = some o → H' b = some o) (hE : H E = some (.lst acc)) : CountAt H' C x ds rs := by
  obtain ⟨dx, t1, t2, ys, h1, h2, h3, h4⟩ := h
  exact ⟨dx, t1, t2, ys, k _ _ (fun z => by rw [z, hE] at h1; cases h1) h1, k _ _ (fun z => by rw [z, hE] at h2; cases h2) h2, pairs_but k hE h3, k _ _ (fun z => by rw [z, hE] at h4; cases h4) h4⟩
theorem CountAt.ch {H H' : Hp} {f C x : Addr} {ds : List (Int × Int)} {rs : List Int} (h : CountAt H C x ds rs) (c : Ch f H H') (fe : FeedAt H f) : CountAt H' C x ds rs := by
  obtain ⟨d, st, _, _, _, e⟩ := fe
  exact CountAt.but h c e
theorem plc_len (qs : List Int) : (plc qs).length ≤ qs.length - 3 := by
  unfold plc
  rw [List.length_map]
  have := List.length_filter_le (takenAt qs) (List.range (qs.length - 3))
  rw [List.length_range] at this
  exact this
section
variable {P : Program} {w : World} {K : PySem.W.Frag} {mg : Str → Option Value} {base : Heap}
theorem ok_LR {f : Addr} {fd : FuncData} {k : Nat} (F : Fun K "_law_range" "_law_range" sLR f fd) (mn : mg "min" = none) (mx : mg "max" = none) : FnOk P w K mg base CX0 (k + 1) f fd ["one", "other"] spRng := by
  refine F.ok scLR (fun vs H Q E h => ?_) (fun cdv A outer s H vs Q E hr h => ?_)
  · obtain ⟨a, b, rfl, _⟩ := h
    rfl
  · obtain ⟨a, b, rfl, hq⟩ := h
    refine ⟨_, pss_one (ps_ret (pe_tup (pa_cons (pe_callB (call_min2 rfl) (by rfl) mn (by decide +kernel) (pa_cons (pv 0) (pa_cons (pv 1) pa_nil))) (pa_cons (pe_callB (call_max2 rfl) (by rfl) mx (by decide +kernel) (pa_cons (pv 0) (pa_cons (pv 1) pa_nil))) pa_nil)))), ?_⟩
    exact ⟨.int a, rfl, .int b, rfl, a, b, rfl, .int a, rfl, .int b, rfl, a, b, rfl, by show 2 ≤ sizeLine; decide, fun p np => hq p np⟩
theorem ok_LH {f : Addr} {fd : FuncData} {k : Nat} (F : Fun K "_law_holds" "_law_holds" sLH f fd) : FnOk P w K mg base CX0 (k + 1) f fd ["outer", "inner"] (spCont K) := by
  refine F.ok scLH (fun vs H Q E h => ?_) (fun cdv A outer s H vs Q E hr h => ?_)
  · obtain ⟨p, q, a, b, c, d, rfl, _⟩ := h
    rfl
  · obtain ⟨p, q, a, b, c, d, rfl, h1, h2, hq⟩ := h
    refine ⟨_, pss_one (ps_ret (pe_and (pe_cmpR op_le (pe_ix ix_tup (pv 0) pe_int (fun _ _ => rfl)) (pe_ix ix_tup (pv 1) pe_int (fun _ _ => rfl)) (nomark _)) (pe_one (pe_cmpR op_le (pe_ix ix_tup (pv 1) pe_int (fun _ _ => rfl)) (pe_ix ix_tup (pv 0) pe_int (fun _ _ => rfl)) (nomark _))))), ?_⟩
    refine ⟨.ref p, rfl, p, _, 0, .int a, rfl, rfl, h1, rfl, .ref q, rfl, q, _, 0, .int c, rfl, rfl, h2, rfl, a, c, rfl, rfl, _, rfl, ?_⟩
    by_cases e : a ≤ c
    · rw [decide_eq_true e] at hq ⊢
      exact iteT ⟨.ref q, rfl, q, _, 1, .int d, rfl, rfl, h2, rfl, .ref p, rfl, p, _, 1, .int b, rfl, rfl, h1, rfl, d, b, rfl, rfl, hq⟩
    · rw [decide_eq_false e] at hq ⊢
      exact iteF hq
def spPl (K : PySem.W.Frag) : Sp := fun vs H Q _ => ∃ (a : Addr) (ps : List Int), vs = [.ref a] ∧ SqL K H a (ps.map V.int) ∧ ps.length ≤ 2000 ∧ ∀ H' p, Same H H' → H p = none → H' p = some (.lst ((plc ps).map V.int)) → Q (.ref p) H'
theorem ok_pl {f fR fC : Addr} {fd dR dC : FuncData} {k : Nat} (F : Fun K "_law_places" "_law_places" sPl f fd)
    (GR : FnOk P w K mg base CX0 (k + 1) fR dR ["one", "other"] spRng) (gR : mg "_law_range" = some (.ref fR)) (kR : PySem.W.keepIn K (.ref fR) = true) (bR : Binds K dR ["one", "other"] [])
    (GC : FnOk P w K mg base CX0 (k + 1) fC dC ["outer", "inner"] (spCont K)) (gC : mg "_law_holds" = some (.ref fC)) (kC : PySem.W.keepIn K (.ref fC) = true) (bC : Binds K dC ["outer", "inner"] [])
    (ml : mg "len" = none) (mr : mg "range" = none) : FnOk P w K mg base CX0 (k + 2) f fd ["points"] (spPl K) := by
  refine F.ok scPl (fun vs H Q E h => ?_) (fun cdv A outer s H vs Q E hr h => ?_)
  · obtain ⟨a, ps, rfl, _⟩ := h
    rfl
  · obtain ⟨a, ps, rfl, hS, hlen, hq⟩ := h
    refine ⟨_, pss_cons (ps_set (i := 1) scPl.nd rfl (.inl rfl) (pe_lst pa_nil))
      (pss_cons (ps_for PassesOwn.never rfl (pi_range2 (by rfl) mr (pa_cons pe_int (pa_cons (pe_op op_sub (pe_callB call_len_seq (by rfl) ml PySem.boot_len (pa_cons (pv 0) pa_nil)) pe_int) pa_nil))) (pg_name (i := 2) scPl.nd rfl (.inl rfl))
        (pss_cons (ps_set (i := 3) scPl.nd rfl (.inl rfl) (pe_call GR hr (by rfl) gR kR bR .nil pass0 (pa_cons (pe_ix ix_list (pv 0) (pv 2) (fun _ _ => rfl)) (pa_cons (pe_ix ix_list (pv 0) (pe_op op_add (pv 2) pe_int) (fun _ _ => rfl)) pa_nil))))
        (pss_one (ps_if (pt_val (pe_call GC hr (by rfl) gC kC bC .nil pass0 (pa_cons (pe_call GR hr (by rfl) gR kR bR .nil pass0 (pa_cons (pe_ix ix_list (pv 0) (pe_op op_sub (pv 2) pe_int) (fun _ _ => rfl)) (pa_cons (pe_ix ix_list (pv 0) (pv 2) (fun _ _ => rfl)) pa_nil))) (pa_cons (pv 3) pa_nil))))
          (pss_one (ps_if (pt_val (pe_call GC hr (by rfl) gC kC bC .nil pass0 (pa_cons (pe_call GR hr (by rfl) gR kR bR .nil pass0 (pa_cons (pe_ix ix_list (pv 0) (pe_op op_add (pv 2) pe_int) (fun _ _ => rfl)) (pa_cons (pe_ix ix_list (pv 0) (pe_op op_add (pv 2) pe_int) (fun _ _ => rfl)) pa_nil))) (pa_cons (pv 3) pa_nil))))
            (pss_one (ps_expr (pe_bm PySem.F.plainAttrs_list PySem.F.slot_list_append PySem.F.type_list_append mt_append (pv 1) (pa_cons (pv 2) pa_nil)))) pss_nil)) pss_nil))))
      (pss_one (ps_ret (pv 1)))), ?_⟩
    have hm : (ps.map V.int).length = ps.length := List.length_map _
    refine ⟨Nat.zero_le _, fun D nD => ?_⟩
    have sD := same_new (o := .lst []) nD
    refine ⟨.ref a, rfl, a, _, rfl, .inl (sD.seq hS), _, 2, rfl, rfl, 1, _, rfl, ⟨by decide, by decide, by rw [hm]; omega, by rw [hm]; omega⟩, for_range (lo := 1) (n := ((((ps.map V.int).length : Int) - 2) - 1).toNat) (fun i σ H' => Same H H' ∧ H' D = some (.lst ((((List.range i).filter (takenAt ps)).map fun (i : Nat) => (i : Int) + 1).map V.int)) ∧ ∃ r2 r3 : Option V, σ = [some (.ref a), some (.ref D), r2, r3]) ⟨sD, upd_same, _, _, rfl⟩ ?_ ?_⟩
    · rintro i σ H' hi ⟨sm, eD, r2, r3, rfl⟩
      rw [hm] at hi
      have hl : i + 3 < ps.length := by omega
      have ez : (1 : Int) + (i : Int) = (i : Int) + 1 := by omega
      obtain ⟨x, e0⟩ : ∃ x, ps[i]? = some x := ⟨_, List.getElem?_eq_getElem (by omega)⟩
      obtain ⟨y, e1⟩ : ∃ x, ps[i + 1]? = some x := ⟨_, List.getElem?_eq_getElem (by omega)⟩
      obtain ⟨t, e2⟩ : ∃ x, ps[i + 2]? = some x := ⟨_, List.getElem?_eq_getElem (by omega)⟩
      obtain ⟨u, e3⟩ : ∃ x, ps[i + 3]? = some x := ⟨_, List.getElem?_eq_getElem (by omega)⟩
      have a0 : atI (ps.map V.int) (1 + (i : Int) - 1) = some (.int x) := at_of (j := i) (by omega) (at_int e0)
      have a1 : atI (ps.map V.int) (1 + (i : Int)) = some (.int y) := at_of (j := i + 1) (by omega) (at_int e1)
      have a2 : atI (ps.map V.int) (1 + (i : Int) + 1) = some (.int t) := at_of (j := i + 2) (by omega) (at_int e2)
      have a3 : atI (ps.map V.int) (1 + (i : Int) + 2) = some (.int u) := at_of (j := i + 3) (by omega) (at_int e3)
      have hSm := sm.seq hS
      have tk := taken_get e0 e1 e2 e3
      have eT : decide (Taken x y t u) = ((decide ((rg x y).1 ≤ (rg y t).1) && decide ((rg y t).2 ≤ (rg x y).2)) && (decide ((rg t u).1 ≤ (rg y t).1) && decide ((rg y t).2 ≤ (rg t u).2))) := by
        unfold Taken
        simp only [Bool.decide_and]
      rw [eT] at tk
      have skip : ∀ {Hz : Hp}, Same H' Hz → takenAt ps i = false → Same H Hz ∧ Hz D = some (.lst ((((List.range (i + 1)).filter (takenAt ps)).map fun (i : Nat) => (i : Int) + 1).map V.int)) := fun {Hz} sz ht => by
        refine ⟨sm.trans sz, ?_⟩
        rw [List.range_succ, List.filter_append, List.filter_cons, ht]
        simp
        rw [sz _ _ eD]
        simp
      refine ⟨.ref a, rfl, .int (1 + (i : Int)), rfl, a, _, _, _, rfl, rfl, hSm, a1, .ref a, rfl, .int (1 + (i : Int)), rfl, _, 1, rfl, rfl, a, _, _, _, rfl, rfl, hSm, a2, y, t, rfl, fun p1 n1 => ?_⟩
      have s1 := same_new (o := .tup [.int (rg y t).1, .int (rg y t).2]) n1
      have g1 := upd_same (H := H') (a := p1) (o := .tup [.int (rg y t).1, .int (rg y t).2])
      generalize upd H' p1 (.tup [.int (rg y t).1, .int (rg y t).2]) = H1 at s1 g1 ⊢
      refine ⟨.ref a, rfl, .int (1 + (i : Int)), rfl, _, 1, rfl, rfl, a, _, _, _, rfl, rfl, s1.seq hSm, a0, .ref a, rfl, .int (1 + (i : Int)), rfl, a, _, _, _, rfl, rfl, s1.seq hSm, a1, x, y, rfl, fun p2 n2 => ?_⟩
      have s2 := same_new (o := .tup [.int (rg x y).1, .int (rg x y).2]) n2
      have g2 := upd_same (H := H1) (a := p2) (o := .tup [.int (rg x y).1, .int (rg x y).2])
      have g12 := s2 _ _ g1
      generalize upd H1 p2 (.tup [.int (rg x y).1, .int (rg x y).2]) = H2 at s2 g2 g12 ⊢
      refine ⟨.ref p1, rfl, p2, p1, _, _, _, _, rfl, SqT.of g2, SqT.of g12, _, rfl, ?_⟩
      cases h1 : (decide ((rg x y).1 ≤ (rg y t).1) && decide ((rg y t).2 ≤ (rg x y).2)) with
      | false =>
        rw [h1, Bool.false_and] at tk
        obtain ⟨z1, z2⟩ := skip (s1.trans s2) tk
        exact iteF ⟨z1, z2, _, _, rfl⟩
      | true =>
        rw [h1, Bool.true_and] at tk
        refine iteT ⟨.ref a, rfl, .int (1 + (i : Int)), rfl, _, 1, rfl, rfl, a, _, _, _, rfl, rfl, (s1.trans s2).seq hSm, a2, .ref a, rfl, .int (1 + (i : Int)), rfl, _, 2, rfl, rfl, a, _, _, _, rfl, rfl, (s1.trans s2).seq hSm, a3, t, u, rfl, fun p3 n3 => ?_⟩
        have s3 := same_new (o := .tup [.int (rg t u).1, .int (rg t u).2]) n3
        have g3 := upd_same (H := H2) (a := p3) (o := .tup [.int (rg t u).1, .int (rg t u).2])
        have g13 := s3 _ _ g12
        generalize upd H2 p3 (.tup [.int (rg t u).1, .int (rg t u).2]) = H3 at s3 g3 g13 ⊢
        have s13 := s1.trans (s2.trans s3)
        refine ⟨.ref p1, rfl, p3, p1, _, _, _, _, rfl, SqT.of g3, SqT.of g13, _, rfl, ?_⟩
        rw [← tk]
        cases ht : takenAt ps i with
        | true =>
          refine iteT ⟨.ref D, rfl, .inl ⟨rfl, _, SqL.of (s13 _ _ eD)⟩, .int (1 + (i : Int)), rfl, D, _, _, rfl, rfl, s13 _ _ eD, ?_, same_again nD (sm.trans s13), ?_, _, _, rfl⟩
          · rw [List.length_map, List.length_map]
            have := List.length_filter_le (takenAt ps) (List.range i)
            rw [List.length_range] at this
            exact small3000 (by omega)
          · rw [upd_same, List.range_succ, List.filter_append, List.filter_cons, ht, ez]
            simp [List.map_append]
        | false =>
          obtain ⟨z1, z2⟩ := skip s13 ht
          exact iteF ⟨z1, z2, _, _, rfl⟩
    · rintro σ H' ⟨sm, eD, r2, r3, rfl⟩
      have en : ((((ps.map V.int).length : Int) - 2) - 1).toNat = ps.length - 3 := by rw [hm]; omega
      rw [en] at eD
      exact ⟨.ref D, rfl, hq _ D sm nD eD⟩
def spHv (K : PySem.W.Frag) : Sp := fun vs H Q _ => ∃ (c r : Addr) (xs : List V) (ds : List (Int × Int)) (rs : List Int), vs = [.ref c, .ref r] ∧ H c = some (.lst xs) ∧ PairsAt H xs ds ∧ H r = some (.lst (rs.map V.int)) ∧ ds.length ≤ 1000 ∧ rs.length ≤ 1000 ∧
  ∀ H' p ys es, Same H H' → H p = none → H' p = some (.lst ys) → PairsAt H' ys es → es.Perm (ds ++ ds ++ sw rs) → es.Pairwise Le → Q (.ref p) H'
theorem ok_hv {f fR : Addr} {fd dR : FuncData} {k : Nat} (F : Fun K "_law_halves" "_law_halves" sHv f fd) (GR : FnOk P w K mg base CX0 (k + 1) fR dR ["one", "other"] spRng) (gR : mg "_law_range" = some (.ref fR)) (kR : PySem.W.keepIn K (.ref fR) = true) (bR : Binds K dR ["one", "other"] [])
    (ml : mg "len" = none) (mr : mg "range" = none) (ms : mg "sorted" = none) : FnOk P w K mg base CX0 (k + 2) f fd ["cycles", "rest"] (spHv K) := by
  refine F.ok scHv (fun vs H Q E h => ?_) (fun cdv A outer s H vs Q E hr h => ?_)
  · obtain ⟨c, r, xs, ds, rs, rfl, _⟩ := h
    rfl
  · obtain ⟨c, r, xs, ds, rs, rfl, hc, pa, hrr, ld, lr, q⟩ := h
    refine ⟨_, pss_cons (ps_set (i := 2) scHv.nd rfl (.inl rfl) (pe_op op_cat (pv 0) (pv 0)))
      (pss_cons (ps_for PassesOwn.never rfl (pi_range1 rfl mr (pa_cons (pe_op op_sub (pe_callB call_len_seq (by rfl) ml PySem.boot_len (pa_cons (pv 1) pa_nil)) pe_int) pa_nil)) (pg_name (i := 3) scHv.nd rfl (.inl rfl))
        (pss_one (ps_expr (pe_bm PySem.F.plainAttrs_list PySem.F.slot_list_append PySem.F.type_list_append mt_append (pv 2) (pa_cons (pe_call GR hr (by rfl) gR kR bR .nil pass0 (pa_cons (pe_ix ix_list (pv 1) (pv 3) (fun _ _ => rfl)) (pa_cons (pe_ix ix_list (pv 1) (pe_op op_add (pv 3) pe_int) (fun _ _ => rfl)) pa_nil))) pa_nil)))))
      (pss_one (ps_ret (pe_callB cr_sortedPO (by rfl) ms (by decide +kernel) (pa_cons (pv 2) pa_nil))))), ?_⟩
    have hm : (rs.map V.int).length = rs.length := List.length_map _
    have lx := pa.length
    refine ⟨.ref c, rfl, .ref c, rfl, c, c, _, _, rfl, rfl, hc, hc, Nat.le_trans (show xs.length + xs.length ≤ 3000 by omega) (by decide), fun D nD => ?_⟩
    have sD := same_new (o := .lst (xs ++ xs)) nD
    refine ⟨.ref r, rfl, r, _, rfl, .inl (SqL.of (sD _ _ hrr)), _, 1, rfl, rfl, _, rfl, by rw [hm]; omega, by rw [hm]; omega, for_range (lo := 0) (n := (((rs.map V.int).length : Int) - 1).toNat) (fun i σ H' => Same H H' ∧ ∃ (ys : List V) (r3 : Option V), H' D = some (.lst ys) ∧ PairsAt H' ys (ds ++ ds ++ (sw rs).take i) ∧ σ = [some (.ref c), some (.ref r), some (.ref D), r3]) ⟨sD, _, none, upd_same, ?_, rfl⟩ ?_ ?_⟩
    · rw [List.take_zero, List.append_nil]
      exact (pa.same sD).append (pa.same sD)
    · rintro i σ H' hi ⟨sm, ys, r3, eD, py, rfl⟩
      rw [hm] at hi
      obtain ⟨x, e0⟩ : ∃ x, rs[i]? = some x := ⟨_, List.getElem?_eq_getElem (by omega)⟩
      obtain ⟨y, e1⟩ : ∃ x, rs[i + 1]? = some x := ⟨_, List.getElem?_eq_getElem (by omega)⟩
      have er := sm _ _ hrr
      have ly := py.length
      refine ⟨.ref D, rfl, .inl ⟨rfl, _, SqL.of eD⟩, .ref r, rfl, .int (0 + (i : Int)), rfl, r, _, _, _, rfl, rfl, SqL.of er, at_of (j := i) (by omega) (at_int e0), .ref r, rfl, .int (0 + (i : Int)), rfl, _, 1, rfl, rfl, r, _, _, _, rfl, rfl, SqL.of er, at_of (j := i + 1) (by omega) (at_int e1), x, y, rfl, fun T nT => ?_⟩
      have sT := same_new (o := .tup [.int (rg x y).1, .int (rg x y).2]) nT
      refine ⟨D, ys, _, rfl, rfl, sT _ _ eD, ?_, same_again nD (sm.trans sT), ys ++ [.ref T], _, upd_same, ?_, rfl⟩
      · rw [ly]
        simp only [List.length_append, List.length_take, sw_len]
        exact Nat.lt_of_le_of_lt (show _ ≤ 4000 by omega) (by decide)
      · rw [sw_take rs i x y e0 e1, ← List.append_assoc]
        refine pairs_but (E := D) (fun b o nb e => by rw [upd_ne nb]; exact e) (sT _ _ eD) ((py.same sT).append ⟨⟨T, rfl, upd_same⟩, trivial⟩)
    · rintro σ H' ⟨sm, ys, r3, eD, py, rfl⟩
      rw [List.take_of_length_le (by rw [sw_len, hm]; omega)] at py
      refine ⟨.ref D, rfl, D, ys, kOf H', rfl, SqL.of eD, (pairs_key py).2, fun zs p g1 g2 np => ?_⟩
      obtain ⟨es, pe, perm, srt⟩ := sorted_out py g1 g2
      have sp := same_new (o := .lst zs) np
      exact q _ p zs es (sm.trans sp) (sm.free np) upd_same (pe.same sp) perm srt
end
end WP

/-! a static method called by its class: C.m(..) -/
namespace SM
open PySem PySem.Spec PyProof.Rows L2
/-- the class has a static method m, the def g -/
structure SMet (K : PySem.W.Frag) (C : Addr) (mc : Value) (m : Str) (g : Addr) : Prop where
  at_ : ∃ p rest, PySem.W.findCls K (.ref C) mc m = some (.get (.builtin "staticmethod.__get__") (.ref p) .none (.ref C)) ∧ PySem.W.recIn K p "staticmethod" = some (.ref g :: rest)
  kp : PySem.W.keepIn K (.ref g) = true
section
variable {X : Cx} {CX : CXT} {k : Nat} {C g : Addr} {mc : Value} {sp : Sp} {E : XK} {o e : Expr} {es : List Expr} {m : Str} {pos apos : Pos} {ta : TE} {t : TA} {pl : Sem Bool}
theorem type_of_reads {K : PySem.W.Frag} (h : PySem.W.readsIn K C mc = true) : PySem.W.typeIn K (.ref C) = some mc := by
  unfold PySem.W.readsIn at h
  simp only [Bool.and_eq_true, beq_iff_eq] at h
  exact h.1.1.1.2
theorem getmeth_sm {pins : List (Addr × Obj)} {σ : L2.St} {H : Hp} {s : Shared} {A : Around} {E : Value → Shared → Prop} {Q : Value × List Value → Shared → Prop} (I : Inv X pins σ H s) (r : ClX.CRead X.K C mc) (c : SMet X.K C mc m g)
    (h : ∀ s', Inv X pins σ H s' → Q (.ref g, []) s') : wpAny (model X.prog X.w) A (getMethod (.ref C) m pl) Q E s := by
  obtain ⟨p, rest, a1, a2⟩ := c.at_
  obtain ⟨mm, hF⟩ := I.fr
  unfold getMethod
  refine wpAny_bind ((PySem.W.looks_specialIn I.kIn r.ga).here ?_)
  have e0 : (Manifest.canonical "type.__getattribute__" != "object.__getattribute__") = true := by decide +kernel
  simp only [e0, if_true]
  refine wpAny_bind (PySem.W.cls_sm hF I.ok.mod.kin (type_of_reads r.rd) r.rd a1 a2 rfl ?_)
  exact wpAny_pure (h _ (I.tok _))
def tSMeth (C : Addr) (sp : Sp) (E : XK) (ta : TE) (t : TA) : TE := fun σ H Q => ta σ H fun x H1 => x = V.ref C ∧ t σ H1 fun vs H2 => sp vs H2 Q E
theorem pe_smeth (ho : PE X o ta) (r : ClX.CRead X.K C mc) (c : SMet X.K C mc m g) (F : FnR X.prog X.w X.K X.mg X.base CX k g sp) (hr : Room k X.A) (hx : Passes CX X E) (ha : PA X (e :: es) t)
    (he : starEach (e :: es) X.env = (false, eval e X.env) :: starEach es X.env := by rfl) (hpl : (backTo pos (starEach es X.env)).any (·.1) = false := by rfl)
    (hev : eval ((o.Attribute m apos).Call (e :: es) [] pos) X.env = (do
      let ov ← eval o X.env
      standAt apos.atName
      let (f, first) ← holding [ov] (getMethod ov m pl)
      callWith pos f first (backTo pos (starEach (e :: es) X.env)) (backToKw pos (keywordEach [] X.env))) := by rfl) :
    PE X (.Call (.Attribute o m apos) (e :: es) [] pos) (tSMeth C sp E ta t) := by
  refine ⟨fun pins s σ H Q I h => ?_⟩
  rw [hev]
  refine wpAny_bind (wpAny_mono (ho.run pins s σ H _ I h) (fun u s1 hu => ?_) fun _ _ z => z)
  obtain ⟨x, H1, I1, rx, rfl, h1⟩ := hu
  cases rx
  refine wpAny_bind (wpAny_standAt ?_)
  refine wpAny_bind (wpAny_holding (getmeth_sm I1 r c fun s2 I2 => ?_))
  refine PySem.W.callWith_K (h₀ := X.base) I2.ok.mod.kin c.kp (thn (ha.run pos pins s2 σ H1 _ I2 h1) fun us s3 ⟨vs, H3, I3, rv, q⟩ => ⟨I3.kIn, ?_⟩) he hpl
  refine wpAny_call (codeAny_mono (F X.A X.stack s3 H3 us vs Q E hr I3.env0 rv q) fun r s' hq => ?_)
  cases r with
  | error e => exact hx pins σ H3 s3 e s' I3 hq
  | ok fl =>
    cases fl with
    | ret u => exact I3.after hq
    | next => exact False.elim hq
    | brk => exact False.elim hq
    | cont => exact False.elim hq
theorem pe_smeth0 (ho : PE X o ta) (r : ClX.CRead X.K C mc) (c : SMet X.K C mc m g) (F : FnR X.prog X.w X.K X.mg X.base CX k g sp) (hr : Room k X.A) (hx : Passes CX X E)
    (hev : eval ((o.Attribute m apos).Call [] [] pos) X.env = (do
      let ov ← eval o X.env
      standAt apos.atName
      let (f, first) ← holding [ov] (getMethod ov m pl)
      callWith pos f first (backTo pos (starEach [] X.env)) (backToKw pos (keywordEach [] X.env))) := by rfl) :
    PE X (.Call (.Attribute o m apos) [] [] pos) (tSMeth C sp E ta tNil) := by
  refine ⟨fun pins s σ H Q I h => ?_⟩
  rw [hev]
  refine wpAny_bind (wpAny_mono (ho.run pins s σ H _ I h) (fun u s1 hu => ?_) fun _ _ z => z)
  obtain ⟨x, H1, I1, rx, rfl, h1⟩ := hu
  cases rx
  refine wpAny_bind (wpAny_standAt ?_)
  refine wpAny_bind (wpAny_holding (getmeth_sm I1 r c fun s2 I2 => ?_))
  refine PySem.W.callWith_K0 I2.kIn c.kp ?_
  refine wpAny_call (codeAny_mono (F X.A X.stack s2 H1 [] [] Q E hr I2.env0 .nil h1) fun r s' hq => ?_)
  cases r with
  | error e => exact hx pins σ H1 s2 e s' I2 hq
  | ok fl =>
    cases fl with
    | ret u => exact I2.after hq
    | next => exact False.elim hq
    | brk => exact False.elim hq
    | cont => exact False.elim hq
end
end SM

/-! Count.joined -/
namespace UJN
open PySem PySem.Spec PyProof.Rows L2 KA PH PM PA PB PC RM RN RS QE QF QG QH RJ
theorem lc_any {J : It} {n : Nat} {G : Hp → Prop} {Y : Nat → Hp → V → Hp → Prop} (w : Walk J n G Y) {B : V → Hp → (Hp → Prop) → Prop} {H0 : Hp} {Qd : Hp → Prop} (Pv : Nat → Hp → Prop) (p0 : Pv 0 H0) (pg : ∀ i H, i ≤ n → Pv i H → G H)
    (step : ∀ i x H H', i < n → Pv i H → Y i H x H' → B x H' (Pv (i + 1))) (fin : ∀ H, Pv n H → Qd H) :
    ∃ W : Nat → Nat → Hp → Prop, (∃ m, W 0 m H0) ∧ ∀ i m H, W i m H → (J.stop i H ∧ Qd H) ∨ (J.go i H ∧ ∃ Nx : Hp → Prop, (∀ H', Nx H' → ∃ m', m' < m ∧ W (i + 1) m' H') ∧ ∀ x H', J.yld i H x H' → B x H' Nx) := by
  refine ⟨fun i m H => i ≤ n ∧ m = n - i ∧ Pv i H, ⟨n, Nat.zero_le _, rfl, p0⟩, ?_⟩
  rintro i m H ⟨hi, rfl, hp⟩
  rcases Nat.lt_or_ge i n with h | h
  · refine .inr ⟨w.goes i H h (pg i H hi hp), Pv (i + 1), fun H' hn => ⟨n - (i + 1), by omega, by omega, rfl, hn⟩, fun x H' hy => step i x H H' h hp (w.yields i H x H' h (pg i H hi hp) hy)⟩
  · have e : i = n := by omega
    subst e
    exact .inl ⟨w.stops H (pg i H hi hp), fin H hp⟩
/-- counts stand -/
def CntsAt (H : Hp) (C : Addr) : List V → List (List (Int × Int) × List Int) → Prop
  | [], [] => True
  | x :: xs, t :: ts => (∃ a, x = .ref a ∧ CountAt H C a t.1 t.2) ∧ CntsAt H C xs ts
  | _, _ => False
theorem CntsAt.same {C : Addr} {H H' : Hp} (s : Same H H') : ∀ {xs : List V} {ts : List (List (Int × Int) × List Int)}, CntsAt H C xs ts → CntsAt H' C xs ts
  | [], [], _ => trivial
  | _ :: _, _ :: _, ⟨⟨a, e, h⟩, r⟩ => ⟨⟨a, e, h.same s⟩, r.same s⟩
  | [], _ :: _, h => h.elim
  | _ :: _, [], h => h.elim
theorem CntsAt.length {C : Addr} {H : Hp} : ∀ {xs : List V} {ts : List (List (Int × Int) × List Int)}, CntsAt H C xs ts → xs.length = ts.length
  | [], [], _ => rfl
  | _ :: _, _ :: _, ⟨_, r⟩ => congrArg (· + 1) r.length
  | [], _ :: _, h => h.elim
  | _ :: _, [], h => h.elim
theorem CntsAt.get {C : Addr} {H : Hp} : ∀ {xs : List V} {ts : List (List (Int × Int) × List Int)}, CntsAt H C xs ts → ∀ {i : Nat} {x : V}, xs[i]? = some x → ∃ a t, x = .ref a ∧ ts[i]? = some t ∧ CountAt H C a t.1 t.2
  | x :: xs, t :: ts, ⟨⟨a, e, h⟩, r⟩, 0, y, hy => ⟨a, t, by rw [← e]; exact (Option.some.inj hy).symm, rfl, h⟩
  | x :: xs, t :: ts, ⟨_, r⟩, i + 1, y, hy => CntsAt.get r (i := i) hy
  | [], [], _, _, _, hy => by cases hy
  | [], _ :: _, h, _, _, _ => h.elim
  | _ :: _, [], h, _, _, _ => h.elim
def fr (ts : List (List (Int × Int) × List Int)) : List Int := (ts.map (·.2)).flatten
def fc (ts : List (List (Int × Int) × List Int)) : List (Int × Int) := (ts.map (·.1)).flatten
theorem fr_take {ts : List (List (Int × Int) × List Int)} {i : Nat} {t : List (Int × Int) × List Int} (h : ts[i]? = some t) : fr (ts.take (i + 1)) = fr (ts.take i) ++ t.2 := by
  unfold fr; rw [List.take_add_one, h]; simp
theorem fc_take {ts : List (List (Int × Int) × List Int)} {i : Nat} {t : List (Int × Int) × List Int} (h : ts[i]? = some t) : fc (ts.take (i + 1)) = fc (ts.take i) ++ t.1 := by
  unfold fc; rw [List.take_add_one, h]; simp
theorem flat_len {α β : Type} (f : α → List β) (ts : List α) (i : Nat) : ((ts.take i).map f).flatten.length ≤ ((ts.map f).flatten).length := by
  have : (ts.map f).flatten = ((ts.take i).map f).flatten ++ ((ts.drop i).map f).flatten := by
    rw [← List.flatten_append, ← List.map_append, List.take_append_drop]
  rw [this, List.length_append]
  omega
theorem pairs_in {H : Hp} {xs : List V} {rs : List (Int × Int)} (h : PairsAt H xs rs) {i : Nat} {x : V} (hx : xs[i]? = some x) : ∃ p r, x = .ref p ∧ rs[i]? = some r ∧ H p = some (.tup [.int r.1, .int r.2]) := by
  induction xs generalizing rs i with
  | nil => cases hx
  | cons y xs ih =>
    cases rs with
    | nil => exact h.elim
    | cons r rs =>
      obtain ⟨⟨p, e, hp⟩, h2⟩ := h
      cases i with
      | zero => exact ⟨p, r, by rw [← e]; exact (Option.some.inj hx).symm, rfl, hp⟩
      | succ i => exact ih h2 hx
theorem pairs_at1 {H : Hp} {q : Addr} {r : Int × Int} (h : H q = some (.tup [.int r.1, .int r.2])) : PairsAt H [.ref q] [r] := ⟨⟨q, rfl, h⟩, trivial⟩
end UJN

/-! the law's own count, by a stack of slices -/
namespace UCT
open PySem PySem.Spec PyProof.Rows L2 KA KD KL PH PM PA PB PC RM RN RS QE QF QG QH QK QL WN WF2 WP
theorem last4 : ∀ {m : List Int}, 4 ≤ m.length → ∃ pre b c d e, m = pre ++ [b, c, d, e] := by
  intro m h
  rcases List.eq_nil_or_concat m with rfl | ⟨m1, e, rfl⟩
  · simp at h
  · obtain ⟨pre, b, c, d, rfl⟩ := last3 (m := m1) (by simp at h; omega)
    exact ⟨pre, b, c, d, e, by simp⟩
theorem cut_neg {α : Type} (xs : List V) (j : Nat) : cutV xs (some (-((j : Int) + 1))) none = xs.drop (xs.length - (j + 1)) := by
  unfold cutV
  have e : HT.sIx xs.length 0 (some (-((j : Int) + 1))) = xs.length - (j + 1) := by
    show (if (-((j : Int) + 1)) < 0 then (-((j : Int) + 1) + (xs.length : Int)).toNat else min (-((j : Int) + 1)).toNat xs.length) = xs.length - (j + 1)
    rw [if_pos (by omega)]
    omega
  rw [HT.sIx_none, e]
  exact List.take_of_length_le (by rw [List.length_drop]; omega)
theorem cut_toneg (xs : List V) (j : Nat) : cutV xs none (some (-((j : Int) + 1))) = xs.take (xs.length - (j + 1)) := by
  unfold cutV
  have e : HT.sIx xs.length xs.length (some (-((j : Int) + 1))) = xs.length - (j + 1) := by
    show (if (-((j : Int) + 1)) < 0 then (-((j : Int) + 1) + (xs.length : Int)).toNat else min (-((j : Int) + 1)).toNat xs.length) = xs.length - (j + 1)
    rw [if_pos (by omega)]
    omega
  rw [HT.sIx_none, e, List.drop_zero, Nat.sub_zero]
theorem plc4 (b c d e : Int) : plc [b, c, d, e] = if Taken b c d e then [1] else [] := by
  unfold plc
  show (((List.range 1).filter (takenAt [b, c, d, e])).map fun (i : Nat) => (i : Int) + 1) = _
  have : takenAt [b, c, d, e] 0 = decide (Taken b c d e) := rfl
  by_cases h : Taken b c d e
  · rw [if_pos h, show List.range 1 = [0] from rfl, List.filter_cons, this, decide_eq_true h]; rfl
  · rw [if_neg h, show List.range 1 = [0] from rfl, List.filter_cons, this, decide_eq_false h]; rfl
theorem plc_short {m : List Int} (h : m.length ≤ 3) : plc m = [] := by
  unfold plc
  rw [Nat.sub_eq_zero_of_le h]; rfl
theorem plc_short' {mm : List Int} {r : Int} (h : ¬ 3 ≤ mm.length) : plc ((mm ++ [r]).drop ((mm ++ [r]).length - 4)) = [] := by
  refine plc_short ?_
  rw [List.length_drop, List.length_append, List.length_singleton]
  omega
/-- what the loops hold -/
structure Ls (H : Hp) (t C P : Addr) (tp' : List Int) (ps : List Int) (xs : List V) (cs : List (Int × Int)) (Hx : Hp) : Prop where
  sm : Same H Hx
  tu : Hx t = some (.lst (tp'.map V.int))
  pl : Hx P = some (.lst (ps.map V.int))
  c : Hx C = some (.lst xs)
  pa : PairsAt Hx xs cs
  nP : H P = none
  PC : P ≠ C
  Pt : P ≠ t
  tC : t ≠ C
theorem Ls.same {H : Hp} {t C P : Addr} {tt ps : List Int} {xs : List V} {cs : List (Int × Int)} {H1 H2 : Hp} (g : Ls H t C P tt ps xs cs H1) (s : Same H1 H2) : Ls H t C P tt ps xs cs H2 :=
  ⟨g.sm.trans s, s _ _ g.tu, s _ _ g.pl, s _ _ g.c, g.pa.same s, g.nP, g.PC, g.Pt, g.tC⟩
section
variable {P : Program} {w : World} {K : PySem.W.Frag} {mg : Str → Option Value} {base : Heap}
def spCt (K : PySem.W.Frag) : Sp := fun vs H Q _ => ∃ (f a : Addr) (ns : List Int), vs = [.ref f, .ref a] ∧ SqL K H a (ns.map V.int) ∧ ns.length ≤ 500 ∧
  ∀ H' p q1 q2 ys cs ds rs, Same H H' → H p = none → H q1 = none → H' p = some (.tup [.ref q1, .ref q2]) → H' q1 = some (.lst ys) → PairsAt H' ys ds → ds.Perm cs → ds.Pairwise Le → H' q2 = some (.lst (rs.map V.int)) → Run (tp ns) cs rs → NF rs → Q (.ref p) H'
theorem ok_ct {f0 fLP fPL fLR : Addr} {fd dLP dPL dLR : FuncData} {k : Nat} (F : Fun K "_law_count" "_law_count" sCt f0 fd)
    (GLP : FnOk P w K mg base CX0 (k + 2) fLP dLP ["load"] (spLP K)) (gLP : mg "_law_points" = some (.ref fLP)) (kLP : PySem.W.keepIn K (.ref fLP) = true) (bLP : Binds K dLP ["load"] [])
    (GPL : FnOk P w K mg base CX0 (k + 2) fPL dPL ["points"] (spPl K)) (gPL : mg "_law_places" = some (.ref fPL)) (kPL : PySem.W.keepIn K (.ref fPL) = true) (bPL : Binds K dPL ["points"] [])
    (GLR : FnOk P w K mg base CX0 (k + 2) fLR dLR ["one", "other"] spRng) (gLR : mg "_law_range" = some (.ref fLR)) (kLR : PySem.W.keepIn K (.ref fLR) = true) (bLR : Binds K dLR ["one", "other"] [])
    (ms : mg "sorted" = none) : FnOk P w K mg base CX0 (k + 3) f0 fd ["feed", "load"] (spCt K) := by
  refine F.ok scCt (fun vs H Q E h => ?_) (fun cdv A outer s H vs Q E hr h => ?_)
  · obtain ⟨f, a, ns, rfl, _⟩ := h
    rfl
  · obtain ⟨f, a, ns, rfl, hS, hlen, hq⟩ := h
    refine ⟨_, pss_cons (ps_par (i := 2) (j := 3) (by rfl) scCt.nd rfl rfl (by decide) rfl rfl (pa_cons (pe_lst pa_nil) (pa_cons (pe_lst pa_nil) pa_nil)) (by rfl))
      (pss_cons (ps_for PassesOwn.never rfl (pi_list (pe_call GLP hr (by rfl) gLP kLP bLP .nil pass0 (pa_cons (pv 1) pa_nil))) (pg_name (i := 4) scCt.nd rfl (.inl rfl))
        (pss_cons (ps_expr (pe_bm PySem.F.plainAttrs_list PySem.F.slot_list_append PySem.F.type_list_append mt_append (pv 2) (pa_cons (pv 4) pa_nil)))
        (pss_one (ps_while PassesOwn.never (pt_cmpR (op_neD hr.units) (pe_call GPL hr (by rfl) gPL kPL bPL .nil pass0 (pa_cons (pe_slice sl_list (pv 2) (po_some (pe_un un_neg pe_int)) po_none) pa_nil)) (pe_lst pa_nil) (nomark _))
          (pss_cons (ps_expr (pe_bm PySem.F.plainAttrs_list PySem.F.slot_list_append PySem.F.type_list_append mt_append (pv 3) (pa_cons (pe_call GLR hr (by rfl) gLR kLR bLR .nil pass0 (pa_cons (pe_ix ix_list (pv 2) (pe_un un_neg pe_int) (fun _ _ => rfl)) (pa_cons (pe_ix ix_list (pv 2) (pe_un un_neg pe_int) (fun _ _ => rfl)) pa_nil))) pa_nil)))
          (pss_one (ps_set (i := 2) scCt.nd rfl (.inl rfl) (pe_op op_cat (pe_slice sl_list (pv 2) po_none (po_some (pe_un un_neg pe_int))) (pe_slice sl_list (pv 2) (po_some (pe_un un_neg pe_int)) po_none)))))))))
      (pss_one (ps_ret (pe_tup (pa_cons (pe_callB cr_sortedPO (by rfl) ms (by decide +kernel) (pa_cons (pv 3) pa_nil)) (pa_cons (pv 2) pa_nil)))))), ?_⟩
    refine ⟨Nat.zero_le _, fun P0 nP => ⟨Nat.zero_le _, fun C nC => ⟨.ref P0, .ref C, rfl, ?_⟩⟩⟩
    have nPC : P0 ≠ C := fun z => by rw [← z, upd_same] at nC; cases nC
    have nC0 : H C = none := (same_new nP).free nC
    have sm0 : Same H (upd (upd H P0 (.lst [])) C (.lst [])) := (same_new nP).trans (same_new nC)
    have eP0 : (upd (upd H P0 (.lst [])) C (.lst [])) P0 = some (.lst []) := by rw [upd_ne nPC, upd_same]
    have eC0 : (upd (upd H P0 (.lst [])) C (.lst [])) C = some (.lst []) := upd_same
    generalize upd (upd H P0 (.lst [])) C (.lst []) = H0 at sm0 eC0 eP0 ⊢
    refine ⟨.ref a, rfl, a, ns, rfl, sm0.seq hS, by omega, fun H1 t s1 nt et => ?_⟩
    have htl := tp_len ns
    have eP1 := s1 _ _ eP0
    have eC1 := s1 _ _ eC0
    have ntP : P0 ≠ t := fun z => by rw [← z, eP0] at nt; cases nt
    have ntC : t ≠ C := fun z => by rw [z, eC0] at nt; cases nt
    have g0 : Ls H t C P0 (tp ns) [] [] [] H1 := ⟨sm0.trans s1, et, eP1, eC1, trivial, nP, nPC, ntP, ntC⟩
    refine ⟨t, rfl, ⟨_, SqL.of et⟩, for_list (K := K) (a := t) (xs := (tp ns).map V.int) (fun i σ Hx => ∃ (P' : Addr) (xs : List V) (cs : List (Int × Int)) (rs : List Int) (r4 : Option V), σ = [some (.ref f), some (.ref a), some (.ref P'), some (.ref C), r4] ∧
      Ls H t C P' (tp ns) rs xs cs Hx ∧ Run ((tp ns).take i) cs rs ∧ NF rs) ?_ ?_ ?_ ?_⟩
    · exact ⟨P0, [], [], [], none, rfl, g0, .nil _, fun c q s => by have := s.len; simp at this⟩
    · rintro i σ Hx _ ⟨P', xs, cs, rs, r4, rfl, g, _⟩
      exact SqL.of g.tu
    · rintro i x σ Hx hx ⟨P', xs, cs, rs, r4, rfl, g, run, nf⟩
      obtain ⟨r, hr2, rfl⟩ := int_at hx
      have hin : i < (tp ns).length := (List.getElem?_eq_some_iff.mp hr2).1
      have hrl := run.len
      rw [List.length_take] at hrl
      refine ⟨.ref P', rfl, .inl ⟨rfl, _, SqL.of g.pl⟩, .int r, rfl, P', _, _, rfl, rfl, g.pl, by rw [List.length_map]; exact small3000 (by omega), ?_⟩
      have e1 : rs.map V.int ++ [V.int r] = (rs ++ [r]).map V.int := by rw [List.map_append]; rfl
      rw [e1]
      have g1 : Ls H t C P' (tp ns) (rs ++ [r]) xs cs (upd Hx P' (.lst ((rs ++ [r]).map V.int))) :=
        ⟨same_again g.nP g.sm, by rw [upd_ne g.Pt.symm]; exact g.tu, upd_same, by rw [upd_ne g.PC.symm]; exact g.c, pairs_upd g.pl g.pa, g.nP, g.PC, g.Pt, g.tC⟩
      have run1 : Run ((tp ns).take (i + 1)) cs (rs ++ [r]) := by
        rw [List.take_add_one, hr2]
        exact RN.Run.suffix run [r]
      refine ⟨fun m σ Hx => ∃ (P' : Addr) (xs : List V) (cs : List (Int × Int)) (mm : List Int), m = mm.length ∧ σ = [some (.ref f), some (.ref a), some (.ref P'), some (.ref C), some (.int r)] ∧ Ls H t C P' (tp ns) (mm ++ [r]) xs cs Hx ∧ Run ((tp ns).take (i + 1)) cs (mm ++ [r]) ∧ NF mm,
        ⟨_, P', xs, cs, rs, rfl, rfl, g1, run1, nf⟩, ?_⟩
      clear g1 run1 g run nf hrl e1 xs cs rs P'
      rintro m σ Hx ⟨P', xs, cs, mm, rfl, rfl, g, run, nf⟩
      have hrl := run.len
      rw [List.length_take, List.length_append, List.length_singleton] at hrl
      have hm : ((mm ++ [r]).map V.int).length = mm.length + 1 := by simp
      have fin : NF (mm ++ [r]) → ∀ Hz, Same Hx Hz → ∃ (P'' : Addr) (xs : List V) (cs : List (Int × Int)) (rs : List Int) (r4 : Option V), [some (.ref f), some (.ref a), some (.ref P'), some (.ref C), some (.int r)] = [some (.ref f), some (.ref a), some (.ref P''), some (.ref C), r4] ∧
          Ls H t C P'' (tp ns) rs xs cs Hz ∧ Run ((tp ns).take (i + 1)) cs rs ∧ NF rs := fun n Hz sz => ⟨P', xs, cs, mm ++ [r], _, rfl, g.same sz, run, n⟩
      refine ⟨.ref P', rfl, 4, rfl, _, rfl, P', _, rfl, SqL.of g.pl, fun q nq => ?_⟩
      have eq4 : cutV ((mm ++ [r]).map V.int) (some (-(4 : Int))) none = ((mm ++ [r]).drop ((mm ++ [r]).length - 4)).map V.int := by
        rw [show (-(4 : Int)) = -(((3 : Nat) : Int) + 1) by decide, cut_neg (α := Int), List.map_drop, List.length_map]
      rw [eq4]
      have s2 := same_new (o := .lst (((mm ++ [r]).drop ((mm ++ [r]).length - 4)).map V.int)) nq
      have eqq := upd_same (H := Hx) (a := q) (o := .lst (((mm ++ [r]).drop ((mm ++ [r]).length - 4)).map V.int))
      generalize upd Hx q (.lst (((mm ++ [r]).drop ((mm ++ [r]).length - 4)).map V.int)) = H2 at s2 eqq ⊢
      refine ⟨q, _, rfl, SqL.of eqq, by rw [List.length_drop]; omega, fun H3 p1 s3 n1 ep1 => ⟨Nat.zero_le _, fun e1 ne1 => ?_⟩⟩
      have s4 := same_new (o := .lst []) ne1
      have ep1' := s4 _ _ ep1
      have ee1 := upd_same (H := H3) (a := e1) (o := .lst [])
      have s24 := s2.trans (s3.trans s4)
      generalize upd H3 e1 (.lst []) = H4 at s4 ep1' ee1 s24 ⊢
      clear s2 s3 s4 eqq ep1
      by_cases h3 : 3 ≤ mm.length
      · obtain ⟨pre, b, c, d, rfl⟩ := last3 h3
        have hml : (pre ++ [b, c, d]).length = pre.length + 3 := by simp
        have el : pre ++ [b, c, d] ++ [r] = pre ++ b :: c :: d :: r :: [] := by simp
        have ed : (pre ++ [b, c, d] ++ [r]).drop ((pre ++ [b, c, d] ++ [r]).length - 4) = [b, c, d, r] := by
          rw [el, show (pre ++ [b, c, d, r]).length - 4 = pre.length by simp, List.drop_left]
        rw [ed, plc4] at ep1'
        by_cases tk : Taken b c d r
        · rw [if_pos tk] at ep1'
          refine ⟨.list (dInts [1]), .list (dInts []), .lst (SqL.of ep1') (dp_ints [1]), .lst (SqL.of ee1) (dp_ints []), shaped_lst [1], shaped_lst [], _, rfl, ?_⟩
          rw [show PyData.eqv (.list (dInts [1])) (.list (dInts [])) = false by rfl]
          refine iteT ⟨fun σ Hx => ∃ m', m' < (pre ++ [b, c, d]).length ∧ ∃ (P' : Addr) (xs : List V) (cs : List (Int × Int)) (mm : List Int), m' = mm.length ∧ σ = [some (.ref f), some (.ref a), some (.ref P'), some (.ref C), some (.int r)] ∧ Ls H t C P' (tp ns) (mm ++ [r]) xs cs Hx ∧ Run ((tp ns).take (i + 1)) cs (mm ++ [r]) ∧ NF mm, fun _ _ z => z, ?_⟩
          have g2 := g.same s24
          have eR : H4 P' = some (.lst ((pre ++ [b]).map V.int ++ [V.int c, V.int d, V.int r])) := by
            rw [g2.pl]
            simp [List.map_append]
          refine ⟨.ref C, rfl, .inl ⟨rfl, _, SqL.of g2.c⟩, .ref P', rfl, 3, rfl, P', _, -3, .int c, rfl, rfl, SqL.of eR, atI_last3 _ _ _ _, .ref P', rfl, 2, rfl, P', _, -2, .int d, rfl, rfl, SqL.of eR, atI_last2' _ _ _ _, c, d, rfl, fun q2 nq2 => ?_⟩
          have s5 := same_new (o := .tup [.int (rg c d).1, .int (rg c d).2]) nq2
          have eq2 := upd_same (H := H4) (a := q2) (o := .tup [.int (rg c d).1, .int (rg c d).2])
          have g3 := g2.same s5
          have hxl : xs.length ≤ 2500 := by rw [g2.pa.length]; omega
          generalize upd H4 q2 (.tup [.int (rg c d).1, .int (rg c d).2]) = H5 at s5 eq2 g3 ⊢
          refine ⟨C, xs, .ref q2, rfl, rfl, g3.c, small3000 (by omega), ?_⟩
          have nC0 : H C = none := nC0
          have g4 : Ls H t C P' (tp ns) (pre ++ [b, c, d] ++ [r]) (xs ++ [.ref q2]) (cs ++ [rg c d]) (upd H5 C (.lst (xs ++ [.ref q2]))) :=
            ⟨same_again nC0 g3.sm, by rw [upd_ne g.tC]; exact g3.tu, by rw [upd_ne g.PC]; exact g3.pl, upd_same, PairsAt.append (pairs_upd g3.c g3.pa) ⟨⟨q2, rfl, by rw [upd_ne (fun z => by rw [z, g3.c] at eq2; cases eq2)]; exact eq2⟩, trivial⟩, g.nP, g.PC, g.Pt, g.tC⟩
          generalize upd H5 C (.lst (xs ++ [.ref q2])) = H6 at g4 ⊢
          refine ⟨.ref P', rfl, 3, rfl, _, rfl, P', _, rfl, SqL.of g4.pl, fun l1 nl1 => ?_⟩
          have c1 : cutV ((pre ++ [b, c, d] ++ [r]).map V.int) none (some (-(3 : Int))) = (pre ++ [b]).map V.int := by
            rw [show (-(3 : Int)) = -(((2 : Nat) : Int) + 1) by decide, cut_toneg, List.length_map, ← List.map_take]
            congr 1
            rw [show pre ++ [b, c, d] ++ [r] = (pre ++ [b]) ++ [c, d, r] by simp, show ((pre ++ [b]) ++ [c, d, r]).length - (2 + 1) = (pre ++ [b]).length by simp, List.take_left]
          rw [c1]
          have s6 := same_new (o := .lst ((pre ++ [b]).map V.int)) nl1
          refine ⟨.ref P', rfl, 1, rfl, _, rfl, P', _, rfl, SqL.of (s6 _ _ g4.pl), fun l2 nl2 => ?_⟩
          have c2 : cutV ((pre ++ [b, c, d] ++ [r]).map V.int) (some (-(1 : Int))) none = [r].map V.int := by
            rw [show (-(1 : Int)) = -(((0 : Nat) : Int) + 1) by decide, cut_neg (α := Int), List.length_map, ← List.map_drop]
            congr 1
            rw [show (pre ++ [b, c, d] ++ [r]).length - (0 + 1) = (pre ++ [b, c, d]).length by simp, List.drop_left]
          rw [c2]
          have s7 := same_new (o := .lst ([r].map V.int)) nl2
          have g7 := (g4.same s6).same s7
          refine ⟨l1, l2, _, _, rfl, rfl, s7 _ _ upd_same, upd_same, ?_, fun P'' nP'' => ?_⟩
          · rw [List.length_map, List.length_map]
            have hb : (pre ++ [b]).length = pre.length + 1 := by simp
            rw [hb]
            exact Nat.le_of_lt (small3000 (show pre.length + 1 + 1 ≤ 3000 by omega))
          have e8 : (pre ++ [b]).map V.int ++ [r].map V.int = (pre ++ [b] ++ [r]).map V.int := by rw [← List.map_append]
          rw [e8]
          have s8 := same_new (o := .lst ((pre ++ [b] ++ [r]).map V.int)) nP''
          have g8 := g7.same s8
          have n8C : P'' ≠ C := fun z => by rw [z, g7.c] at nP''; cases nP''
          have n8t : P'' ≠ t := fun z => by rw [z, g7.tu] at nP''; cases nP''
          refine ⟨(pre ++ [b]).length, by simp, P'', _, _, pre ++ [b], rfl, rfl, ⟨g8.sm, g8.tu, upd_same, g8.c, g8.pa, g7.sm.free nP'', n8C, n8t, g.tC⟩, ?_, nf_prefix (l := [c, d]) (by simpa using nf)⟩
          refine run.snoc ?_
          rw [el, List.append_assoc]
          exact (Step.here tk).prefix pre
        · rw [if_neg tk] at ep1'
          refine ⟨.list (dInts []), .list (dInts []), .lst (SqL.of ep1') (dp_ints []), .lst (SqL.of ee1) (dp_ints []), shaped_lst [], shaped_lst [], _, rfl, ?_⟩
          rw [eqv_same (shaped_lst [])]
          refine iteF (fin (nf_push nf fun pre' b' c' d' e => ?_) _ s24)
          have e6 : pre' ++ [b', c', d', r] = (pre' ++ [b', c', d']) ++ [r] := by simp
          rw [e6] at e
          obtain ⟨e7, _⟩ := List.append_inj' e rfl
          obtain ⟨_, e8⟩ := List.append_inj' e7 rfl
          injection e8 with h1 h2
          injection h2 with h2 h3
          injection h3 with h3 _
          subst h1 h2 h3
          exact tk
      · have es : plc ((mm ++ [r]).drop ((mm ++ [r]).length - 4)) = [] := plc_short' (by omega)
        rw [es] at ep1'
        refine ⟨.list (dInts []), .list (dInts []), .lst (SqL.of ep1') (dp_ints []), .lst (SqL.of ee1) (dp_ints []), shaped_lst [], shaped_lst [], _, rfl, ?_⟩
        rw [eqv_same (shaped_lst [])]
        refine iteF (fin (nf_push nf fun pre' b' c' d' e => ?_) _ s24)
        have : (mm ++ [r]).length = (pre' ++ [b', c', d', r]).length := by rw [e]
        simp only [List.length_append, List.length_cons, List.length_nil] at this
        omega
    · rintro σ Hx ⟨P', xs, cs, rs, r4, rfl, g, run, nf⟩
      have et2 : (tp ns).take ((tp ns).map V.int).length = tp ns := by rw [List.length_map]; exact List.take_length
      rw [et2] at run
      refine ⟨.ref C, rfl, C, xs, kOf Hx, rfl, SqL.of g.c, (pairs_key g.pa).2, fun ys p h1 h2 np => ?_⟩
      obtain ⟨ds, pd, perm, srt⟩ := sorted_out g.pa h1 h2
      have s2 := same_new (o := .lst ys) np
      refine ⟨.ref P', rfl, by show 2 ≤ sizeLine; decide, fun q nq => ?_⟩
      have s3 := same_new (o := .tup [.ref p, .ref P']) nq
      exact hq _ q p P' ys cs ds rs (g.sm.trans (s2.trans s3)) (g.sm.free (s2.free nq)) (g.sm.free np) upd_same (s3 _ _ upd_same) ((pd.same s2).same s3) perm srt (s3 _ _ (s2 _ _ g.pl)) run nf
end
end UCT

/-! xs[::-1] of a list -/
namespace GR
open PySem PySem.Spec PyProof.Rows L2
def tBack (K : PySem.W.Frag) (te : TE) (tk : TO) : TE := fun σ H Q => te σ H fun v H1 => tk σ H1 fun o H2 => o = some (-1) ∧ ∃ a xs, v = .ref a ∧ SqL K H2 a xs ∧ ∀ p, H2 p = none → Q (.ref p) (upd H2 p (.lst xs.reverse))
theorem pe_back {X : Cx} {e st : Expr} {te : TE} {tk : TO} {p2 pos : Pos} (he : PE X e te) (hk : PO X (some st) tk) : PE X (.Subscript e (.Slice none none (some st) p2) pos) (tBack X.K te tk) := by
  refine ⟨fun pins s σ H Q I h => ?_⟩
  refine Subscript_ (thn (he.run pins s σ H _ I h) fun v s1 ⟨x, H1, I1, r1, q1⟩ => ?_)
  refine wpAny_Slice ?_
  rw [evalPart_none]
  refine wpAny_pure ?_
  refine wpAny_pure ?_
  refine thn (hk.run pins s1 σ H1 _ I1 q1) fun vk s2 ⟨o, H2, I2, pk, q2⟩ => ?_
  obtain ⟨rfl, a, xs, rfl, hx, q⟩ := q2
  have I4 : Inv X pins σ H2 { s2 with heap := s2.heap.push { cls := .type "slice", data := .fields #[.none, .none, vk] } } := I2.kept (t' := s2.toks) fun b ob q => Heap.get?_push_of_some _ q
  cases r1
  obtain ⟨its, r, ht, hz⟩ := I4.list hx
  have hlen := r.length
  have hs : ({ s2 with heap := s2.heap.push { cls := .type "slice", data := .fields #[.none, .none, vk] } } : Shared).heap.IsSliceOf s2.heap.objs.size .none .none vk := Heap.IsSliceOf.new ..
  have hg : wpAny (model X.prog X.w) X.A (getItem (.ref a) (.ref s2.heap.objs.size)) (EP X pins σ Q) X.xe { s2 with heap := s2.heap.push { cls := .type "slice", data := .fields #[.none, .none, vk] } } := by
    refine wpAny_getItem_list_slice ht.isList hs .none .none pk (by simp) ?_ (by rw [List.size_toArray] <;> omega)
    rw [PySem.W.krv_pick]
    refine ⟨.ref _, _, I4.laid (t' := s2.toks) (o := .lst xs.reverse) (fun b ob q => Heap.get?_push_of_some _ q) (Nat.le_refl _) ?_, rfl, q _ (I4.hok.fresh (Nat.le_refl _))⟩
    exact ⟨by rw [List.length_reverse]; exact hz, _, 0, r.reverse, Heap.get?_push_size _ rfl⟩
  show wpAny (model X.prog X.w) X.A (subscriptTail e (.Slice none none (some st) p2) (.ref a) (.ref s2.heap.objs.size)) (EP X pins σ Q) X.xe _
  exact tail_any (ops := [.ref a, .ref s2.heap.objs.size]) ht.isList.typeIs slot_list_getitem.lookup hg (by with_unfolding_all rfl)
end GR

/-! xs.remove(r) of a list of pairs of ints -/
namespace RP
open PySem PySem.Spec PyProof.Rows L2 PH
theorem loop_eq (l : Addr) (x : Value) (i : Nat) : Builtin.«list.remove.loop» { pos := [Value.ref l, x, rawInt ↑i] } = (do
      let its ← Builtin.List.listItems (.ref l)
      match its[i]? with
      | none => do
        rule "list.remove.not-found"
        raiseErrorWords "ValueError" "list.remove(x): x not in list"
      | some y => do
        let b ← eqBool y x
        if b = true then do
            Builtin.List.listUpdate (.ref l) fun x => x.eraseIdxIfInBounds i
            ret Value.none
          else again (Code.builtin "list.remove.loop" { pos := [.ref l, x, rawInt (i + 1)] })) := rfl
theorem remove_loopAt (l : Addr) (items : Array Value) (n : Nat) (x : Value) (j : Nat) (hj : j < items.size) (hz : items.size ≤ sizeLine) : ∀ k i : Nat, j - i = k → i ≤ j →
    Meets (Builtin.«list.remove.loop» { pos := [Value.ref l, x, rawInt (i : Nat)] }) fun A R s => s.heap.get? l = some { cls := Value.type "list", data := Data.seq items n } ∧
      (∀ m (hm : m < items.size), i ≤ m → m ≤ j → SeqAt.EqAt A.in1 s items[m] x (decide (m = j))) ∧ R (.ok (.ret .none)) { s with heap := s.heap.update l (Obj.mapSeq fun xs => xs.eraseIdxIfInBounds j) }
  | 0, i, hk, hi => by
    have e0 : i = j := by omega
    subst e0
    rintro prog w A R s ⟨hl, he, hR⟩
    rw [loop_eq]
    refine wpAny_bind (listItems_at hl rfl ?_)
    rw [Array.getElem?_eq_getElem hj]
    refine wpAny_bind (he i hj (Nat.le_refl _) (Nat.le_refl _) prog w _ _ ?_)
    rw [if_pos (decide_eq_true rfl)]
    refine wpAny_bind (listUpdate_at hl rfl ?_ hz (Nat.le_trans (MeetsSeq.size_erased _ _) (Nat.le_succ_of_le hz)))
    exact wpAny_pure hR
  | k + 1, i, hk, hi => by
    rintro prog w A R s ⟨hl, he, hR⟩
    rw [loop_eq]
    refine wpAny_bind (listItems_at hl rfl ?_)
    rw [Array.getElem?_eq_getElem (by omega)]
    refine wpAny_bind (he i (by omega) (Nat.le_refl _) hi prog w _ _ ?_)
    rw [if_neg (by rw [decide_eq_true_eq]; omega)]
    exact MeetsSeq.meets_again rfl MeetsSeq.plain_remove_loop MeetsSeq.entry_remove_loop (remove_loopAt l items n x j hj hz k (i + 1) (by omega) (by omega)) prog w A R s ⟨hl, fun m hm a b => he m hm (by omega) b, hR⟩
theorem list_removeAt (l : Addr) (items : Array Value) (n : Nat) (x : Value) (j : Nat) (hj : j < items.size) (hz : items.size ≤ sizeLine) :
    Meets (Builtin.«list.remove» { pos := [Value.ref l, x] }) fun A R s => s.heap.get? l = some { cls := Value.type "list", data := Data.seq items n } ∧
      (∀ m (hm : m < items.size), 0 ≤ m → m ≤ j → SeqAt.EqAt A.in1 s items[m] x (decide (m = j))) ∧ R (.ok (.ret .none)) { s with heap := s.heap.update l (Obj.mapSeq fun xs => xs.eraseIdxIfInBounds j) } :=
  MeetsSeq.meets_again (args' := { pos := [Value.ref l, x, rawInt ((0 : Nat) : Int)] }) rfl MeetsSeq.plain_remove_loop MeetsSeq.entry_remove_loop (remove_loopAt l items n x j hj hz j 0 rfl (Nat.zero_le _))
def dP (r : Int × Int) : PyData := .tuple [.int r.1, .int r.2]
theorem eqv_pair (r c : Int × Int) : PyData.eqv (dP r) (dP c) = decide (r = c) := by
  obtain ⟨a, b⟩ := r
  obtain ⟨c, d⟩ := c
  rw [Bool.eq_iff_iff]
  simp [dP, PyData.eqv, PyData.eqvAll]
theorem dp_pair {K : PySem.W.Frag} {H : Hp} {p : Addr} {r : Int × Int} (h : H p = some (.tup [.int r.1, .int r.2])) : Dp K H (.ref p) (dP r) :=
  .tup (SqT.of h) (dp_ints [r.1, r.2])
theorem vals_erase : ∀ {xs : List V} {us : List Value} (j : Nat), Vals xs us → Vals (xs.eraseIdx j) (us.eraseIdx j)
  | _, _, 0, .nil => .nil
  | _, _, _ + 1, .nil => .nil
  | _, _, 0, .cons _ t => t
  | _, _, j + 1, .cons r t => .cons r (vals_erase j t)
theorem vals_get : ∀ {xs : List V} {us : List Value}, Vals xs us → ∀ {j : Nat} {x : V}, xs[j]? = some x → ∃ u, us[j]? = some u ∧ RelV x u
  | _, _, .nil, _, _, h => by cases h
  | _, _, .cons r _, 0, _, h => ⟨_, rfl, by rw [← Option.some.inj h]; exact r⟩
  | _, _, .cons _ t, j + 1, _, h => vals_get t (j := j) h
theorem vals_len : ∀ {xs : List V} {us : List Value}, Vals xs us → xs.length = us.length
  | _, _, .nil => rfl
  | _, _, .cons _ t => congrArg (· + 1) (vals_len t)
/-- remove a pair, which stands at place j first -/
def rRemP : V → List V → Hp → VK → Prop := fun x xs H Q => ∃ (l q : Addr) (ys : List V) (rs : List (Int × Int)) (c : Int × Int) (j : Nat), x = .ref l ∧ xs = [.ref q] ∧ H l = some (.lst ys) ∧ PairsAt H ys rs ∧ H q = some (.tup [.int c.1, .int c.2]) ∧
  rs[j]? = some c ∧ (∀ m : Nat, m < j → rs[m]? ≠ some c) ∧ Q .non (upd H l (.lst (ys.eraseIdx j)))
theorem pair_get {H : Hp} : ∀ {xs : List V} {rs : List (Int × Int)}, PairsAt H xs rs → ∀ {i : Nat} {r : Int × Int}, rs[i]? = some r → ∃ p, xs[i]? = some (.ref p) ∧ H p = some (.tup [.int r.1, .int r.2])
  | [], [], _, _, _, h => by cases h
  | _ :: _, _ :: _, ⟨⟨p, e, hp⟩, _⟩, 0, _, h => ⟨p, by rw [e]; rfl, by rw [← Option.some.inj h]; exact hp⟩
  | _ :: _, _ :: _, ⟨_, t⟩, i + 1, _, h => pair_get t (i := i) h
  | [], _ :: _, h, _, _, _ => h.elim
  | _ :: _, [], h, _, _, _ => h.elim
theorem mt_remP {X : Cx} (hu : X.A.units + 64 < cLine) : MtM X "list.remove" rRemP := by
  intro pins s σ H x xs v us Q I rx rxs h
  obtain ⟨l, q, ys, rs, c, j, rfl, rfl, hl, pa, hq, hj, hm, hQ⟩ := h
  rw [Vals.ref1 rxs]
  cases (show v = Value.ref l from rx)
  obtain ⟨z, its, n, r, hlen, e⟩ := I.lstM hl
  have yl := pa.length
  have il : its.length = rs.length := by rw [← yl]; exact (vals_len r).symm
  have jl := (List.getElem?_eq_some_iff.mp hj).1
  have hl2 : s.heap.IsList l its.toArray := PySem.IsL.isList e
  obtain ⟨bs, rq⟩ := Dp.reads I _ (.ref q) (.ref q) (dp_pair hq) rfl
  refine call_meets F.slot_list_remove hl2.typeIs F.entry_list_remove (F.args_list_remove_2 _ _) (list_removeAt l its.toArray n (.ref q) j (by rw [List.size_toArray]; omega) (by rw [List.size_toArray, ← hlen]; exact z)) ⟨e, fun m hm2 _ mj => ?_, ?_⟩
  · rw [List.size_toArray] at hm2
    obtain ⟨rm, hrm⟩ : ∃ rm, rs[m]? = some rm := ⟨_, List.getElem?_eq_getElem (by omega)⟩
    obtain ⟨p, hp1, hp2⟩ := pair_get pa hrm
    obtain ⟨u, hu1, hu2⟩ := vals_get r hp1
    have eu : its[m] = u := by
      have := List.getElem?_eq_getElem hm2
      rw [hu1] at this
      exact (Option.some.inj this).symm
    obtain ⟨as, rp⟩ := Dp.reads I _ (.ref p) u (dp_pair hp2) hu2
    have key := SeqAt.eqAt_reads (dP rm) (dP c) X.A.in1 s u (.ref q) as bs rp rq rfl rfl (by show X.A.units + 1 + min _ _ < cLine; have : min (dP rm).depth (dP c).depth ≤ 3 := Nat.le_trans (Nat.min_le_left _ _) (by show PyData.depth (.tuple _) ≤ 3; simp [PyData.depth, PyData.depthAll]); omega)
    rw [eqv_pair] at key
    have ed : decide (m = j) = decide (rm = c) := by
      rw [decide_eq_decide]
      constructor
      · rintro rfl
        rw [hj] at hrm
        exact (Option.some.inj hrm).symm
      · intro er
        rcases Nat.lt_or_ge m j with h | h
        · exact absurd (by rw [hrm, er]) (hm m h)
        · omega
    rw [ed]
    show SeqAt.EqAt _ s its.toArray[m] _ _
    rw [List.getElem_toArray, eu]
    exact key
  · refine ⟨.non, _, I.lset (ys := ys.eraseIdx j) (its' := its.eraseIdx j) (t' := s.toks) hl e ?_ (vals_erase j r) ?_, rfl, hQ⟩
    · rw [List.eraseIdxIfInBounds_toArray]
    · have := List.length_eraseIdx_le ys j
      omega
end RP

/-! o.m() where m is a def with *args -/
namespace MR
open PySem PySem.Spec PyProof.Rows L2
section
variable {X : Cx} {CX : CXT} {k : Nat} {C g : Addr} {sp : Sp} {E : XK} {o : Expr} {m : Str} {pos apos : Pos} {ta : TE} {pl : Sem Bool}
theorem pe_methR0 (ho : PE X o ta) (c : Cls X.K C) (hm : Meth X.K C m g) (F : FnR X.prog X.w X.K X.mg X.base CX k g sp) (hr : Room k X.A) (hx : Passes CX X E)
    (hev : eval ((o.Attribute m apos).Call [] [] pos) X.env = (do
      let ov ← eval o X.env
      standAt apos.atName
      let (f, first) ← holding [ov] (getMethod ov m pl)
      callWith pos f first (backTo pos (starEach [] X.env)) (backToKw pos (keywordEach [] X.env))) := by rfl) :
    PE X (.Call (.Attribute o m apos) [] [] pos) (tMethR C m sp E ta tNil) := by
  refine ⟨fun pins s σ H Q I h => ?_⟩
  rw [hev]
  refine wpAny_bind (wpAny_mono (ho.run pins s σ H _ I h) (fun u s1 hu => ?_) fun _ _ z => z)
  obtain ⟨x, H1, I1, rx, a, dx, fs, rfl, e1, e2, h1⟩ := hu
  cases rx
  refine wpAny_bind (wpAny_standAt ?_)
  refine wpAny_bind (wpAny_holding (getmeth_ok I1 e1 c hm e2 ?_))
  refine PySem.W.callWith_K0 I1.kIn hm.kp ?_
  refine wpAny_call (codeAny_mono (F X.A X.stack s1 H1 [.ref a] [.ref a] Q E hr I1.env0 (.cons rfl .nil) h1) fun r s' hq => ?_)
  cases r with
  | error e => exact hx pins σ H1 s1 e s' I1 hq
  | ok fl =>
    cases fl with
    | ret u => exact I1.after hq
    | next => exact False.elim hq
    | brk => exact False.elim hq
    | cont => exact False.elim hq
end
end MR

/-! k83's law: what the top has written -/
namespace E3T
open PySem PySem.Spec PyProof.Rows L2 KA KD KL PH PM PA PB PC RM RN RC RS QE QF QG QH QJ QK QL WN WF2 WP RJ BO BCt BCu
open K9 (Cn cn_one)
abbrev sAD : Stmt := topS 33
abbrev sCL : Stmt := topS 34
abbrev sSE : Stmt := topS 35
abbrev sLaw : Stmt := topS 36
theorem scAD : FnScope ["counter", "some"] ["counter", "some"] (defScope sAD) := ⟨rfl, rfl, rfl, by decide +kernel, rfl, by decide +kernel, by decide +kernel⟩
theorem scCL : FnScope ["feed", "done", "reading", "left", "cycle"] ["feed", "done", "reading"] (defScope sCL) := ⟨rfl, rfl, rfl, by decide +kernel, rfl, by decide +kernel, by decide +kernel⟩
theorem scSE : FnScope ["feed", "load", "a", "b", "c", "d", "e", "f", "g", "counter", "closed_by", "cycles", "rest", "now", "turn"] ["feed"] (defScope sSE) := ⟨rfl, rfl, rfl, by decide +kernel, rfl, by decide +kernel, by decide +kernel⟩
theorem scLaw : FnScope ["script", "k", "feed", "turn", "load", "counter", "done", "some", "before", "text", "reading", "grown", "cycles", "rest", "now"] ["script"] (defScope E3T.sLaw) := ⟨rfl, rfl, rfl, by decide +kernel, rfl, by decide +kernel, by decide +kernel⟩
structure Txt (K : PySem.W.Frag) (mg : Str → Option Value) (fCO fRG fTP fIL fBT fSW fCH fMT fPB fCN fCR fPR fPN fPT fFE fTA fPI fLO fLP fLR fLH fPL fCT fAD fCL fSE C fIN pO fOF pC fPC pR fPR_ p3 fPH fPG fEQ fST CC fKI pKC fKC pKT fKT fKA fKP fKK : Addr) (dCO dRG dTP dIL dBT dSW dCH dMT dPB dCN dCR dPR dPN dPT dFE dTA dPI dLO dLP dLR dLH dPL dCT dAD dCL dSE dIN dOF dPC dPR_ dPH dPG dEQ dST dKI dKC dKT dKA dKP dKK : FuncData) : Prop where
  FCO : Fun K "contains" "contains" sCont fCO dCO
  gCO : mg "contains" = some (.ref fCO)
  kCO : PySem.W.keepIn K (.ref fCO) = true
  bCO : Binds K dCO ["outer", "inner"] []
  FRG : Fun K "range_of" "range_of" sRng fRG dRG
  gRG : mg "range_of" = some (.ref fRG)
  kRG : PySem.W.keepIn K (.ref fRG) = true
  bRG : Binds K dRG ["one", "other"] []
  FTP : Fun K "turning_points" "turning_points" sTP fTP dTP
  gTP : mg "turning_points" = some (.ref fTP)
  kTP : PySem.W.keepIn K (.ref fTP) = true
  bTP : Binds K dTP ["load"] []
  FIL : Fun K "is_left_out" "is_left_out" sLO fIL dIL
  gIL : mg "is_left_out" = some (.ref fIL)
  kIL : PySem.W.keepIn K (.ref fIL) = true
  bIL : Binds K dIL ["points", "reading"] []
  FBT : Fun K "_lies_between" "_lies_between" sBtw fBT dBT
  gBT : mg "_lies_between" = some (.ref fBT)
  kBT : PySem.W.keepIn K (.ref fBT) = true
  bBT : Binds K dBT ["reading", "before", "after"] []
  FSW : Fun K "swings" "swings" sSw fSW dSW
  gSW : mg "swings" = some (.ref fSW)
  kSW : PySem.W.keepIn K (.ref fSW) = true
  bSW : Binds K dSW ["load"] []
  FCH : Fun K "changes" "changes" sCh fCH dCH
  gCH : mg "changes" = some (.ref fCH)
  kCH : PySem.W.keepIn K (.ref fCH) = true
  bCH : Binds K dCH ["load", "low", "high"] []
  FMT : Fun K "_may_be_taken" "_may_be_taken" sMT fMT dMT
  gMT : mg "_may_be_taken" = some (.ref fMT)
  kMT : PySem.W.keepIn K (.ref fMT) = true
  bMT : Binds K dMT ["points", "place"] []
  FPB : Fun K "put_behind" "put_behind" sPB fPB dPB
  gPB : mg "put_behind" = some (.ref fPB)
  kPB : PySem.W.keepIn K (.ref fPB) = true
  bPB : Binds K dPB ["rest", "reading"] []
  FCN : Fun K "_counted" "_counted" sCo fCN dCN
  gCN : mg "_counted" = some (.ref fCN)
  kCN : PySem.W.keepIn K (.ref fCN) = true
  bCN : Binds K dCN ["load"] []
  FCR : Fun K "cycles_row" "cycles_row" sCR fCR dCR
  gCR : mg "cycles_row" = some (.ref fCR)
  kCR : PySem.W.keepIn K (.ref fCR) = true
  bCR : Binds K dCR ["cycles"] []
  FPR : Fun K "points_row" "points_row" sPRw fPR dPR
  gPR : mg "points_row" = some (.ref fPR)
  kPR : PySem.W.keepIn K (.ref fPR) = true
  bPR : Binds K dPR ["points"] []
  FPN : Fun K "place_in" "place_in" BO.sPI fPN dPN
  gPN : mg "place_in" = some (.ref fPN)
  kPN : PySem.W.keepIn K (.ref fPN) = true
  bPN : Binds K dPN ["row", "value"] []
  FPT : Fun K "put_in" "put_in" sPT fPT dPT
  gPT : mg "put_in" = some (.ref fPT)
  kPT : PySem.W.keepIn K (.ref fPT) = true
  bPT : Binds K dPT ["row", "value"] []
  FFE : Fun K "_law_feed" "_law_feed" sFeed fFE dFE
  gFE : mg "_law_feed" = some (.ref fFE)
  kFE : PySem.W.keepIn K (.ref fFE) = true
  bFE : Binds K dFE ["script", "k"] []
  FTA : Fun K "_law_take" "_law_take" sTake fTA dTA
  gTA : mg "_law_take" = some (.ref fTA)
  kTA : PySem.W.keepIn K (.ref fTA) = true
  bTA : Binds K dTA ["feed", "many"] []
  FPI : Fun K "_law_pick" "_law_pick" sPick fPI dPI
  gPI : mg "_law_pick" = some (.ref fPI)
  kPI : PySem.W.keepIn K (.ref fPI) = true
  bPI : Binds K dPI ["feed", "some"] []
  FLO : Fun K "_law_load" "_law_load" sLoad fLO dLO
  gLO : mg "_law_load" = some (.ref fLO)
  kLO : PySem.W.keepIn K (.ref fLO) = true
  bLO : Binds K dLO ["feed", "most"] []
  FLP : Fun K "_law_points" "_law_points" sLP fLP dLP
  gLP : mg "_law_points" = some (.ref fLP)
  kLP : PySem.W.keepIn K (.ref fLP) = true
  bLP : Binds K dLP ["load"] []
  FLR : Fun K "_law_range" "_law_range" sLR fLR dLR
  gLR : mg "_law_range" = some (.ref fLR)
  kLR : PySem.W.keepIn K (.ref fLR) = true
  bLR : Binds K dLR ["one", "other"] []
  FLH : Fun K "_law_holds" "_law_holds" sLH fLH dLH
  gLH : mg "_law_holds" = some (.ref fLH)
  kLH : PySem.W.keepIn K (.ref fLH) = true
  bLH : Binds K dLH ["outer", "inner"] []
  FPL : Fun K "_law_places" "_law_places" sPl fPL dPL
  gPL : mg "_law_places" = some (.ref fPL)
  kPL : PySem.W.keepIn K (.ref fPL) = true
  bPL : Binds K dPL ["points"] []
  FCT : Fun K "_law_count" "_law_count" sCt fCT dCT
  gCT : mg "_law_count" = some (.ref fCT)
  kCT : PySem.W.keepIn K (.ref fCT) = true
  bCT : Binds K dCT ["feed", "load"] []
  FAD : Fun K "_law_added" "_law_added" E3T.sAD fAD dAD
  gAD : mg "_law_added" = some (.ref fAD)
  kAD : PySem.W.keepIn K (.ref fAD) = true
  bAD : Binds K dAD ["counter", "some"] []
  FCL : Fun K "_law_closed" "_law_closed" E3T.sCL fCL dCL
  gCL : mg "_law_closed" = some (.ref fCL)
  kCL : PySem.W.keepIn K (.ref fCL) = true
  bCL : Binds K dCL ["feed", "done", "reading"] []
  FSE : Fun K "_law_seven_right" "_law_seven_right" E3T.sSE fSE dSE
  gSE : mg "_law_seven_right" = some (.ref fSE)
  kSE : PySem.W.keepIn K (.ref fSE) = true
  bSE : Binds K dSE ["feed"] []
  gC : mg "Count" = some (.ref C)
  cn : Cnt K C
  mkc : Mk K C fIN
  FIN : Fun K "__init__" "Count.__init__" sInit fIN dIN
  bIN : Binds K dIN ["self", "cycles", "rest"] []
  rd : ClX.CRead K C (.type "type")
  cm : ClX.CMet K C (.type "type") "of" pO fOF
  FOF : Fun K "of" "Count.of" sOf fOF dOF
  bOF : Binds K dOF ["cls", "load"] []
  prC : PropOf K C "cycles" pC fPC
  FPC : Fun K "cycles" "Count.cycles" sPC fPC dPC
  bPC : Binds K dPC ["self"] []
  prR : PropOf K C "rest" pR fPR_
  FPR_ : Fun K "rest" "Count.rest" sPR fPR_ dPR_
  bPR_ : Binds K dPR_ ["self"] []
  prH : PropOf K C "half_cycles" p3 fPH
  FPH : Fun K "half_cycles" "Count.half_cycles" sPH fPH dPH
  bPH : Binds K dPH ["self"] []
  mPG : Meth K C "changes" fPG
  FPG : Fun K "changes" "Count.changes" sPG fPG dPG
  bPG : Binds K dPG ["self", "low", "high"] []
  ins : C8.InsC K C
  fnEQ : PySem.W.findIn K (.ref C) "__eq__" = some (some (.ref fEQ))
  iEQ : PySem.W.isFn K (.ref fEQ) = true
  mO : PySem.W.mroIn K C (.type "object") = some true
  neC : PySem.W.findIn K (.ref C) "__ne__" = some (some (.builtin "object.__ne__"))
  FEQ : Fun K "__eq__" "Count.__eq__" sEQ fEQ dEQ
  bEQ : Binds K dEQ ["self", "other"] []
  fnST : PySem.W.findIn K (.ref C) "__str__" = some (some (.ref fST))
  iST : PySem.W.isFn K (.ref fST) = true
  FST : Fun K "__str__" "Count.__str__" sST fST dST
  bST : Binds K dST ["self"] []
  gN : ∃ u, mg "NOTHING" = some u ∧ RelV (.str "none") u
  gK : mg "Counter" = some (.ref CC)
  ctr : Ctr K CC
  mkk : Mk K CC fKI
  FKI : Fun K "__init__" "Counter.__init__" sKI fKI dKI
  bKI : Binds K dKI ["self"] []
  prK : PropOf K CC "counted" pKC fKC
  FKC : Fun K "counted" "Counter.counted" sKC fKC dKC
  bKC : Binds K dKC ["self"] []
  prT : PropOf K CC "total" pKT fKT
  FKT : Fun K "total" "Counter.total" sKT fKT dKT
  bKT : Binds K dKT ["self"] []
  mA : Meth K CC "add" fKA
  FKA : Fun K "add" "Counter.add" sKA fKA dKA
  mP : Meth K CC "preview" fKP
  FKP : Fun K "preview" "Counter.preview" sKP fKP dKP
  bKP : Binds K dKP ["self", "reading"] []
  mK : Meth K CC "_keep" fKK
  FKK : Fun K "_keep" "Counter._keep" sKK fKK dKK
  bKK : Binds K dKK ["self", "cycles"] []
  len : mg "len" = none
  zip : mg "zip" = none
  max : mg "max" = none
  min : mg "min" = none
  abs : mg "abs" = none
  range : mg "range" = none
  sorted : mg "sorted" = none
  tuple : mg "tuple" = none
  list : mg "list" = none
  isinstance : mg "isinstance" = none
  int : mg "int" = none
  repr : mg "repr" = none
  str : mg "str" = none
theorem _root_.BCt.CtrAt.off {H : Hp} {CC x C1 R1 : Addr} {ds : List (Int × Int)} {rs : List Int} {n : Int} (ca : CtrAt H CC x C1 R1 ds rs n) {b : Addr} (hb : H b = none) : b ≠ x ∧ b ≠ C1 ∧ b ≠ R1 := by
  obtain ⟨⟨dx, h1⟩, ⟨xs, h2, h3⟩, h4, h5, h6⟩ := ca
  refine ⟨fun z => ?_, fun z => ?_, fun z => ?_⟩
  · rw [z, h1] at hb; cases hb
  · rw [z, h2] at hb; cases hb
  · rw [z, h5] at hb; cases hb
theorem tot_add (a b : List Int) : ((a.length : Nat) : Int) + (b.length : Nat) = ((a ++ b).length : Nat) := by rw [List.length_append]; omega
theorem _root_.BCt.CtrAt.more {H : Hp} {CC x C1 R1 : Addr} {ds : List (Int × Int)} {rs a b : List Int} (ca : CtrAt H CC x C1 R1 ds rs (((a.length : Nat) : Int) + (b.length : Nat))) : CtrAt H CC x C1 R1 ds rs ((a ++ b).length : Nat) := by
  rw [← tot_add]; exact ca
theorem same3 {H0 H H' : Hp} {x C1 R1 : Addr} (s : Same H0 H) (c : Ch3 x C1 R1 H H') (nx : H0 x = none) (nC : H0 C1 = none) (nR : H0 R1 = none) : Same H0 H' := fun b o e => c b o (ne_of_none e nx) (ne_of_none e nC) (ne_of_none e nR) (s b o e)
theorem sat2 {H : Hp} {C x : Addr} {ds : List (Int × Int)} {rs : List Int} (h : CountAt H C x ds rs) : ∃ dx t1 t2, H x = some (.ins C dx [("_cycles", .ref t1), ("_rest", .ref t2)]) := by
  obtain ⟨dx, t1, t2, _, h, _⟩ := h
  exact ⟨dx, t1, t2, h⟩
theorem cn_nil : Cn [] [] [] := ⟨⟨[], .nil _, .nil⟩, fun c q s => by have := s.len; simp at this, .nil⟩
theorem _root_.PH.PairsAt.drop1 {H : Hp} : ∀ {xs : List V} {rs : List (Int × Int)}, PairsAt H xs rs → PairsAt H (xs.drop 1) (rs.drop 1)
  | [], [], _ => trivial
  | _ :: _, _ :: _, ⟨_, r⟩ => r
  | [], _ :: _, h => h.elim
  | _ :: _, [], h => h.elim
theorem shaped_tpr (ds : List (Int × Int)) : SeqAt.shaped (.tuple (dPairs ds)) = true :=
  shaped_of (by simp only [PyData.canLay0, lay_pairs]) (by have := depth_pairs ds; simp only [PyData.depth]; omega)
theorem pairs_tup {H H' : Hp} (k : ∀ b t, H b = some (.tup t) → H' b = some (.tup t)) : ∀ {xs : List V} {rs : List (Int × Int)}, PairsAt H xs rs → PairsAt H' xs rs
  | [], [], _ => trivial
  | _ :: _, _ :: _, ⟨⟨p, e, h⟩, r⟩ => ⟨⟨p, e, k _ _ h⟩, pairs_tup k r⟩
  | [], _ :: _, h => h.elim
  | _ :: _, [], h => h.elim
theorem ch3_tup {H H' : Hp} {CC x C1 R1 : Addr} {ds : List (Int × Int)} {rs : List Int} {n : Int} (ca : CtrAt H CC x C1 R1 ds rs n) (c : Ch3 x C1 R1 H H') : ∀ b t, H b = some (.tup t) → H' b = some (.tup t) := fun b t e => by
  obtain ⟨⟨dx, h1⟩, ⟨xs, h2, h3⟩, h4, h5, h6⟩ := ca
  refine c b _ (fun z => ?_) (fun z => ?_) (fun z => ?_) e
  · rw [z, h1] at e; cases e
  · rw [z, h2] at e; cases e
  · rw [z, h5] at e; cases e
theorem _root_.BCt.CtrAt.but {H : Hp} {CC x C1 R1 D : Addr} {o : HO} {ds : List (Int × Int)} {rs : List Int} {n : Int} (ca : CtrAt H CC x C1 R1 ds rs n) (n1 : D ≠ x) (n2 : D ≠ C1) (n3 : D ≠ R1) {l : List V} (hD : H D = some (.lst l)) : CtrAt (upd H D o) CC x C1 R1 ds rs n := by
  obtain ⟨⟨dx, h1⟩, ⟨xs, h2, h3⟩, h4, h5, h6⟩ := ca
  have k : ∀ b o2, b ≠ D → H b = some o2 → upd H D o b = some o2 := fun b o2 z e => by rw [upd_ne z]; exact e
  exact ⟨⟨dx, k _ _ n1.symm h1⟩, ⟨xs, k _ _ n2.symm h2, pairs_tup (fun b t e => k b _ (fun z => by rw [z, hD] at e; cases e) e) h3⟩, h4, k _ _ n3.symm h5, h6⟩
/-- a counter stays while another one changes -/
theorem _root_.BCt.CtrAt.ch3 {H H' : Hp} {CC x C1 R1 y C2 R2 : Addr} {ds : List (Int × Int)} {rs : List Int} {n : Int} (ca : CtrAt H CC y C2 R2 ds rs n) (c : Ch3 x C1 R1 H H') (k : ∀ b t, H b = some (.tup t) → H' b = some (.tup t)) (ny : y ≠ x ∧ y ≠ C1 ∧ y ≠ R1) (nC : C2 ≠ x ∧ C2 ≠ C1 ∧ C2 ≠ R1) (nR : R2 ≠ x ∧ R2 ≠ C1 ∧ R2 ≠ R1) : CtrAt H' CC y C2 R2 ds rs n := by
  obtain ⟨⟨dx, h1⟩, ⟨xs, h2, h3⟩, h4, h5, h6⟩ := ca
  exact ⟨⟨dx, c _ _ ny.1 ny.2.1 ny.2.2 h1⟩, ⟨xs, c _ _ nC.1 nC.2.1 nC.2.2 h2, pairs_tup k h3⟩, h4, c _ _ nR.1 nR.2.1 nR.2.2 h5, h6⟩
end E3T

set_option pp.maxSteps 900
namespace E3S
open PySem PySem.Spec PyProof.Rows L2 KA KD KL PH PM PA PB PC RM RN RC RS QE QF QG QH QJ QK QL WN WF2 WP RJ BO BCt BCu E3T
open K9 (Cn cn_one)
theorem step_mem {p q : List Int} {c : Int × Int} (h : Step p c q) : (∀ x ∈ q, x ∈ p) ∧ c.1 ∈ p ∧ c.2 ∈ p := by
  induction h with
  | @here a b c d post t =>
    refine ⟨fun x hx => ?_, ?_, ?_⟩
    · simp only [List.mem_cons] at hx ⊢
      rcases hx with e | e | e
      · exact .inl e
      · exact .inr (.inr (.inr (.inl e)))
      · exact .inr (.inr (.inr (.inr e)))
    · unfold rg; dsimp only; split <;> simp
    · unfold rg; dsimp only; split <;> simp
  | there _ ih => exact ⟨fun y hy => by
      rcases List.mem_cons.mp hy with e | e
      · exact List.mem_cons.mpr (.inl e)
      · exact List.mem_cons_of_mem _ (ih.1 y e), List.mem_cons_of_mem _ ih.2.1, List.mem_cons_of_mem _ ih.2.2⟩
theorem run_mem {p q : List Int} {cs : List (Int × Int)} (h : Run p cs q) : (∀ x ∈ q, x ∈ p) ∧ ∀ c ∈ cs, c.1 ∈ p ∧ c.2 ∈ p := by
  induction h with
  | nil p => exact ⟨fun _ h => h, fun _ z => (List.not_mem_nil z).elim⟩
  | cons s _ ih =>
    obtain ⟨a, b, c⟩ := step_mem s
    refine ⟨fun x hx => a x (ih.1 x hx), fun y hy => ?_⟩
    rcases List.mem_cons.mp hy with e | e
    · rw [e]; exact ⟨b, c⟩
    · exact ⟨a _ (ih.2 y e).1, a _ (ih.2 y e).2⟩
theorem small_of {ns : List Int} {cs ds : List (Int × Int)} {rs : List Int} (hb : ∀ n ∈ ns, n.natAbs < 2 ^ 39) (hl : ns.length ≤ 2000) (r : Run (tp ns) cs rs) (p : ds.Perm cs) : Small ds rs := by
  have h1 := r.len
  have h2 := tp_len ns
  have h3 : ds.length = cs.length := p.length_eq
  obtain ⟨m1, m2⟩ := run_mem r
  exact ⟨by omega, by omega, fun c hc => let ⟨a, b⟩ := m2 c (p.mem_iff.mp hc); ⟨hb _ (tp_mem a), hb _ (tp_mem b)⟩, fun x hx => hb x (tp_mem (m1 x hx))⟩
theorem cn_small {ns : List Int} {ds : List (Int × Int)} {rs : List Int} (h : Cn ns ds rs) (hb : ∀ n ∈ ns, n.natAbs < 2 ^ 39) (hl : ns.length ≤ 2000) : Small ds rs := by
  obtain ⟨cs, run, p⟩ := h.ex
  exact small_of hb hl run p
theorem nice_tpr {rs : List (Int × Int)} (h : ∀ r ∈ rs, r.1.natAbs < 2 ^ 39 ∧ r.2.natAbs < 2 ^ 39) (hl : rs.length ≤ 2000) : Nice (.tuple (dPairs rs)) :=
  ⟨by simp only [PyData.showable]; exact pairs_show rs h, by simp only [PyData.hasDict]; exact pairs_dict rs, by have := depth_pairs rs; simp only [PyData.depth]; omega, by
    refine PyData.shown_fits (B := 13) (by decide) (by decide) ?_ ?_
    · simp only [PyData.leavesShort]
      exact pairs_leaves rs h
    · have := pairs_weight rs h
      simp only [PyData.weight]
      omega⟩
theorem pairs_erase {H : Hp} : ∀ {xs : List V} {rs : List (Int × Int)} (j : Nat), PairsAt H xs rs → PairsAt H (xs.eraseIdx j) (rs.eraseIdx j)
  | [], [], 0, _ => trivial
  | [], [], _ + 1, _ => trivial
  | _ :: _, _ :: _, 0, ⟨_, t⟩ => t
  | _ :: _, _ :: _, j + 1, ⟨h, t⟩ => ⟨h, pairs_erase j t⟩
  | [], _ :: _, _, h => h.elim
  | _ :: _, [], _, h => h.elim
theorem first_at {c : Int × Int} : ∀ {l : List (Int × Int)}, c ∈ l → ∃ j : Nat, l[j]? = some c ∧ (∀ m : Nat, m < j → l[m]? ≠ some c) ∧ (c :: l.eraseIdx j).Perm l
  | [], h => (List.not_mem_nil h).elim
  | x :: t, h => by
    by_cases e : x = c
    · subst e
      exact ⟨0, rfl, fun m hm => absurd hm (Nat.not_lt_zero m), List.Perm.refl _⟩
    · have ht : c ∈ t := by
        rcases List.mem_cons.mp h with z | z
        · exact absurd z.symm e
        · exact z
      obtain ⟨j, h1, h2, h3⟩ := first_at ht
      refine ⟨j + 1, h1, fun m hm => ?_, ?_⟩
      · cases m with
        | zero => exact fun z => e (Option.some.inj z)
        | succ m => exact h2 m (by omega)
      · exact (List.Perm.swap x c _).trans (List.Perm.cons x h3)
/-- what the next reading closes, by the count before and behind -/
theorem closes {ns : List Int} {r : Int} {ds d2 : List (Int × Int)} {rs r2 : List Int} (h : Cn ns ds rs) (g : Cn (ns ++ [r]) d2 r2) : ∃ cs rs', Run (push rs r) cs rs' ∧ NF rs' ∧ d2.Perm (cs ++ ds) := by
  obtain ⟨c0, run0, p0⟩ := h.ex
  obtain ⟨c2, run2, p2⟩ := g.ex
  obtain ⟨cs, rs', run, nf⟩ := RM.ends _ (push rs r) (Nat.le_refl _)
  have all := Run.append (run_push run0 (tp_zz ns) r) run
  rw [tp_push] at run2
  obtain ⟨_, e⟩ := RM.one_count (zz_push r (tp_zz ns)) run2 g.nf all nf
  exact ⟨cs, rs', run, nf, p2.trans (e.trans (List.perm_append_comm.trans (p0.symm.append_left cs)))⟩
section
variable {P : Program} {w : World} {K : PySem.W.Frag} {mg : Str → Option Value} {base : Heap} {fCO fRG fTP fIL fBT fSW fCH fMT fPB fCN fCR fPR fPN fPT fFE fTA fPI fLO fLP fLR fLH fPL fCT fAD fCL fSE C fIN pO fOF pC fPC pR fPR_ p3 fPH fPG fEQ fST CC fKI pKC fKC pKT fKT fKA fKP fKK : Addr} {dCO dRG dTP dIL dBT dSW dCH dMT dPB dCN dCR dPR dPN dPT dFE dTA dPI dLO dLP dLR dLH dPL dCT dAD dCL dSE dIN dOF dPC dPR_ dPH dPG dEQ dST dKI dKC dKT dKA dKP dKK : FuncData}
def spAD (CC : Addr) : Sp := fun vs H Q _ => ∃ (x a C1 R1 : Addr) (ds : List (Int × Int)) (rs ld new : List Int) (n : Int), vs = [.ref x, .ref a] ∧ CtrAt H CC x C1 R1 ds rs n ∧ Cn ld ds rs ∧ H a = some (.lst (new.map V.int)) ∧ new.length ≤ 4 ∧ ld.length ≤ 1000 ∧ ∀ H' ds' rs', Ch3 x C1 R1 H H' → CtrAt H' CC x C1 R1 ds' rs' (n + new.length) → Cn (ld ++ new) ds' rs' → Q (.int ((ds'.length : Int) - ds.length)) H'
theorem ok_ad {f0 : Addr} {fd : FuncData} (F : Fun K "_law_added" "_law_added" E3T.sAD f0 fd) (T : Txt K mg fCO fRG fTP fIL fBT fSW fCH fMT fPB fCN fCR fPR fPN fPT fFE fTA fPI fLO fLP fLR fLH fPL fCT fAD fCL fSE C fIN pO fOF pC fPC pR fPR_ p3 fPH fPG fEQ fST CC fKI pKC fKC pKT fKT fKA fKP fKK dCO dRG dTP dIL dBT dSW dCH dMT dPB dCN dCR dPR dPN dPT dFE dTA dPI dLO dLP dLR dLH dPL dCT dAD dCL dSE dIN dOF dPC dPR_ dPH dPG dEQ dST dKI dKC dKT dKA dKP dKK) : FnOk P w K mg base CX0 5 f0 fd ["counter", "some"] (spAD CC) := by
  have GCO : FnOk P w K mg base CX0 1 fCO dCO ["outer", "inner"] (spCont K) := ok_Cont T.FCO
  have GRG : FnOk P w K mg base CX0 1 fRG dRG ["one", "other"] spRng := ok_Rng T.FRG T.min T.max
  have GIL : FnOk P w K mg base CX0 2 fIL dIL ["points", "reading"] (spLO K) := ok_LO T.FIL T.FBT T.gBT T.bBT T.len
  have GTP : FnOk P w K mg base CX0 3 fTP dTP ["load"] (spTP K) := both (ok_TPl T.FTP GIL T.gIL T.kIL T.bIL T.tuple) (ok_TPt T.FTP GIL T.gIL T.kIL T.bIL T.tuple)
  have GSW : FnOk P w K mg base CX0 4 fSW dSW ["load"] (spSw K) := ok_sw T.FSW GTP T.gTP T.kTP T.bTP (GRG.mono (by decide)) T.gRG T.kRG T.bRG T.zip
  have GMT : FnOk P w K mg base CX0 2 fMT dMT ["points", "place"] (spMT K) := ok_MT T.FMT T.abs
  have GPB : FnOk P w K mg base CX0 3 fPB dPB ["rest", "reading"] spPB := ok_PB T.FPB GIL T.gIL T.kIL T.bIL GMT T.gMT T.kMT T.bMT (GRG.mono (by decide)) T.gRG T.kRG T.bRG T.len
  have GCN : FnOk P w K mg base CX0 4 fCN dCN ["load"] (spCo K) := ok_Co T.FCN GPB T.gPB T.kPB T.bPB
  have GIN : FnOk P w K mg base CX0 1 fIN dIN ["self", "cycles", "rest"] (spInit K C) := ok_init T.FIN T.cn T.sorted T.tuple
  have GOF : FnOk P w K mg base CX0 5 fOF dOF ["cls", "load"] (spOf K C) := ok_of T.FOF T.mkc (GIN.mono (by decide)) T.bIN GCN T.gCN T.kCN T.bCN
  have GPC : FnOk P w K mg base CX0 1 fPC dPC ["self"] (spPC C) := ok_PC T.FPC T.cn
  have GPR : FnOk P w K mg base CX0 1 fPR_ dPR_ ["self"] (spPR C) := ok_PR T.FPR_ T.cn
  have GPH : FnOk P w K mg base CX0 5 fPH dPH ["self"] (spPH C) := ok_PH T.FPH T.cn GSW T.gSW T.kSW T.bSW T.sorted T.tuple
  have GPG : FnOk P w K mg base CX0 7 fPG dPG ["self", "low", "high"] (spPG C) := ok_PG T.FPG T.cn T.prH GPH T.bPH (GCO.mono (by decide)) T.gCO T.kCO T.bCO T.len
  have GEQ : FnOk P w K mg base CX0 1 fEQ dEQ ["self", "other"] (spEQ C) := ok_EQ T.FEQ T.cn T.ins T.gC T.isinstance
  have GTA : FnOk P w K mg base CX0 1 fTA dTA ["feed", "many"] spTake := ok_take T.FTA
  have GFE : FnOk P w K mg base CX0 1 fFE dFE ["script", "k"] (spFeed K) := ok_feed T.FFE T.len T.max T.abs
  have GLO : FnOk P w K mg base CX0 3 fLO dLO ["feed", "most"] spLoad := ok_load T.FLO T.FTA T.gTA T.bTA T.FPI T.gPI T.bPI T.len T.range T.min
  have GLP : FnOk P w K mg base CX0 1 fLP dLP ["load"] (spLP K) := ok_LP T.FLP T.len T.range T.int
  have GLR : FnOk P w K mg base CX0 1 fLR dLR ["one", "other"] spRng := ok_LR T.FLR T.min T.max
  have GLH : FnOk P w K mg base CX0 1 fLH dLH ["outer", "inner"] (spCont K) := ok_LH T.FLH
  have GPL : FnOk P w K mg base CX0 2 fPL dPL ["points"] (spPl K) := ok_pl T.FPL GLR T.gLR T.kLR T.bLR GLH T.gLH T.kLH T.bLH T.len T.range
  have GCT : FnOk P w K mg base CX0 3 fCT dCT ["feed", "load"] (UCT.spCt K) := UCT.ok_ct T.FCT (GLP.mono (by decide)) T.gLP T.kLP T.bLP GPL T.gPL T.kPL T.bPL (GLR.mono (by decide)) T.gLR T.kLR T.bLR T.sorted
  have GCR : FnOk P w K mg base CX0 1 fCR dCR ["cycles"] (spCR K) := ok_CR T.FCR T.gN
  have GPW2 : FnOk P w K mg base CX0 1 fPR dPR ["points"] (spPRw K) := ok_PRw T.FPR T.gN T.str
  have GST : FnOk P w K mg base CX0 2 fST dST ["self"] (spST C) := ok_ST T.FST T.cn GCR T.gCR T.kCR T.bCR GPW2 T.gPR T.kPR T.bPR
  have GCH : FnOk P w K mg base CX0 1 fCH dCH ["load", "low", "high"] (spCh K) := ok_ch T.FCH T.len T.zip
  have GPI : FnOk P w K mg base CX0 2 fPI dPI ["feed", "some"] (spPick K) := ok_pick T.FPI T.FTA T.gTA T.bTA T.len
  have GPN : FnOk P w K mg base CX0 1 fPN dPN ["row", "value"] spPI := BO.ok_PI T.FPN T.len
  have GPT : FnOk P w K mg base CX0 2 fPT dPT ["row", "value"] spPT := ok_PT T.FPT GPN T.gPN T.kPN T.bPN
  have GKI : FnOk P w K mg base CX0 1 fKI dKI ["self"] (spKI CC) := ok_KI T.FKI T.ctr
  have GKC : FnOk P w K mg base CX0 3 fKC dKC ["self"] (spKC CC C) := ok_KC T.FKC T.ctr T.mkc T.gC GIN T.bIN
  have GKT : FnOk P w K mg base CX0 1 fKT dKT ["self"] (spKT CC) := ok_KT T.FKT T.ctr
  have GKK : FnOk P w K mg base CX0 3 fKK dKK ["self", "cycles"] (spKK K CC) := ok_KK T.FKK T.ctr GPT T.gPT T.kPT T.bPT
  have GKP : FnOk P w K mg base CX0 4 fKP dKP ["self", "reading"] (spKP CC) := ok_KP T.FKP T.ctr GPB T.gPB T.kPB T.bPB T.tuple T.sorted T.list
  have GKA4 : FnR P w K mg base CX0 4 fKA (spKA CC) := ok_KA T.FKA T.ctr GPB T.gPB T.kPB T.bPB T.mK GKK T.bKK T.len
  have GKA : FnR P w K mg base CX0 4 fKA (spKA CC) := fun A outer s H us vs Q E hr => GKA4 A outer s H us vs Q E (hr.mono (by decide))
  have GCO := GCO.mono (show 1 ≤ 4 by decide)
  have GRG := GRG.mono (show 1 ≤ 4 by decide)
  have GIL := GIL.mono (show 2 ≤ 4 by decide)
  have GTP := GTP.mono (show 3 ≤ 4 by decide)
  have GSW := GSW.mono (show 4 ≤ 4 by decide)
  have GMT := GMT.mono (show 2 ≤ 4 by decide)
  have GPB := GPB.mono (show 3 ≤ 4 by decide)
  have GCN := GCN.mono (show 4 ≤ 4 by decide)
  have GIN := GIN.mono (show 1 ≤ 4 by decide)
  have GPC := GPC.mono (show 1 ≤ 3 by decide)
  have GPR := GPR.mono (show 1 ≤ 3 by decide)
  have GEQ := GEQ.mono (show 1 ≤ 3 by decide)
  have GTA := GTA.mono (show 1 ≤ 4 by decide)
  have GFE := GFE.mono (show 1 ≤ 4 by decide)
  have GLO := GLO.mono (show 3 ≤ 4 by decide)
  have GLP := GLP.mono (show 1 ≤ 4 by decide)
  have GLR := GLR.mono (show 1 ≤ 4 by decide)
  have GLH := GLH.mono (show 1 ≤ 4 by decide)
  have GPL := GPL.mono (show 2 ≤ 4 by decide)
  have GCT := GCT.mono (show 3 ≤ 4 by decide)
  have GCR := GCR.mono (show 1 ≤ 4 by decide)
  have GPW2 := GPW2.mono (show 1 ≤ 4 by decide)
  have GST := GST.mono (show 2 ≤ 2 by decide)
  have GCH := GCH.mono (show 1 ≤ 4 by decide)
  have GPI := GPI.mono (show 2 ≤ 4 by decide)
  have GPN := GPN.mono (show 1 ≤ 4 by decide)
  have GPT := GPT.mono (show 2 ≤ 4 by decide)
  have GKI := GKI.mono (show 1 ≤ 3 by decide)
  have GKC := GKC.mono (show 3 ≤ 3 by decide)
  have GKT := GKT.mono (show 1 ≤ 3 by decide)
  have GKK := GKK.mono (show 3 ≤ 4 by decide)
  have GKP := GKP.mono (show 4 ≤ 4 by decide)
  refine F.ok E3T.scAD (fun vs H Q E h => ?_) (fun cdv A outer s H vs Q E hr h => ?_)
  · obtain ⟨x, a, C1, R1, ds, rs, ld, new, n, rfl, _⟩ := h
    rfl
  · obtain ⟨x, a, C1, R1, ds, rs, ld, new, n, rfl, ca, cn, ha, hn, hl, hq⟩ := h
    refine ⟨_, (pss_cons (ps_if (pt_cmpR op_eq (pe_callB call_len_seq (by rfl) T.len PySem.boot_len (pa_cons (pv 1) pa_nil)) pe_int (nomark _)) (pss_one (ps_ret (MR.pe_methR0 (pv 0) T.ctr.cl T.mA GKA hr pass0))) pss_nil)
      (pss_cons (ps_if (pt_cmpR op_eq (pe_callB call_len_seq (by rfl) T.len PySem.boot_len (pa_cons (pv 1) pa_nil)) pe_int (nomark _)) (pss_one (ps_ret (pe_methR (pv 0) T.ctr.cl T.mA GKA hr pass0 (pa_cons (pe_ix ix_list (pv 1) pe_int (fun _ _ => rfl)) pa_nil)))) pss_nil)
      (pss_cons (ps_if (pt_cmpR op_eq (pe_callB call_len_seq (by rfl) T.len PySem.boot_len (pa_cons (pv 1) pa_nil)) pe_int (nomark _)) (pss_one (ps_ret (pe_methR (pv 0) T.ctr.cl T.mA GKA hr pass0 (pa_cons (pe_ix ix_list (pv 1) pe_int (fun _ _ => rfl)) (pa_cons (pe_ix ix_list (pv 1) pe_int (fun _ _ => rfl)) pa_nil))))) pss_nil)
      (pss_cons (ps_if (pt_cmpR op_eq (pe_callB call_len_seq (by rfl) T.len PySem.boot_len (pa_cons (pv 1) pa_nil)) pe_int (nomark _)) (pss_one (ps_ret (pe_methR (pv 0) T.ctr.cl T.mA GKA hr pass0 (pa_cons (pe_ix ix_list (pv 1) pe_int (fun _ _ => rfl)) (pa_cons (pe_ix ix_list (pv 1) pe_int (fun _ _ => rfl)) (pa_cons (pe_ix ix_list (pv 1) pe_int (fun _ _ => rfl)) pa_nil)))))) pss_nil)
      (pss_one (ps_ret (pe_methR (pv 0) T.ctr.cl T.mA GKA hr pass0 (pa_cons (pe_ix ix_list (pv 1) pe_int (fun _ _ => rfl)) (pa_cons (pe_ix ix_list (pv 1) pe_int (fun _ _ => rfl)) (pa_cons (pe_ix ix_list (pv 1) pe_int (fun _ _ => rfl)) (pa_cons (pe_ix ix_list (pv 1) pe_int (fun _ _ => rfl)) pa_nil))))))))))), ?_⟩
    obtain ⟨dx, hx⟩ := ca.ins
    have len5 : ∀ {l : List Int}, l.length ≤ 4 → l = [] ∨ (∃ p, l = [p]) ∨ (∃ p q, l = [p, q]) ∨ (∃ p q r, l = [p, q, r]) ∨ ∃ p q r t, l = [p, q, r, t] := by
      intro l h
      match l, h with
      | [], _ => exact .inl rfl
      | [p], _ => exact .inr (.inl ⟨p, rfl⟩)
      | [p, q], _ => exact .inr (.inr (.inl ⟨p, q, rfl⟩))
      | [p, q, r], _ => exact .inr (.inr (.inr (.inl ⟨p, q, r, rfl⟩)))
      | [p, q, r, t], _ => exact .inr (.inr (.inr (.inr ⟨p, q, r, t, rfl⟩)))
      | _ :: _ :: _ :: _ :: _ :: _, h => simp at h
    rcases len5 hn with rfl | ⟨p, rfl⟩ | ⟨p, q, rfl⟩ | ⟨p, q, r, rfl⟩ | ⟨p, q, r, t, rfl⟩
    · refine ⟨.ref a, rfl, a, _, rfl, .inl (SqL.of ha), rfl, true, rfl, iteT ?_⟩
      exact ⟨.ref x, rfl, x, dx, _, rfl, hx, rfl, x, C1, R1, ds, rs, ld, [], n, rfl, ca, cn, by show ld.length + 0 ≤ 2000; omega, hq⟩
    · refine ⟨.ref a, rfl, a, _, rfl, .inl (SqL.of ha), rfl, false, rfl, iteF ⟨.ref a, rfl, a, _, rfl, .inl (SqL.of ha), rfl, true, rfl, iteT ?_⟩⟩
      exact ⟨.ref x, rfl, x, dx, _, rfl, hx, rfl, .ref a, rfl, a, _, 0, .int p, rfl, rfl, SqL.of ha, at_of (j := 0) rfl rfl, x, C1, R1, ds, rs, ld, [p], n, rfl, ca, cn, by show ld.length + 1 ≤ 2000; omega, hq⟩
    · refine ⟨.ref a, rfl, a, _, rfl, .inl (SqL.of ha), rfl, false, rfl, iteF ⟨.ref a, rfl, a, _, rfl, .inl (SqL.of ha), rfl, false, rfl, iteF ⟨.ref a, rfl, a, _, rfl, .inl (SqL.of ha), rfl, true, rfl, iteT ?_⟩⟩⟩
      exact ⟨.ref x, rfl, x, dx, _, rfl, hx, rfl, .ref a, rfl, a, _, 0, .int p, rfl, rfl, SqL.of ha, at_of (j := 0) rfl rfl, .ref a, rfl, a, _, 1, .int q, rfl, rfl, SqL.of ha, at_of (j := 1) rfl rfl, x, C1, R1, ds, rs, ld, [p, q], n, rfl, ca, cn, by show ld.length + 2 ≤ 2000; omega, hq⟩
    · refine ⟨.ref a, rfl, a, _, rfl, .inl (SqL.of ha), rfl, false, rfl, iteF ⟨.ref a, rfl, a, _, rfl, .inl (SqL.of ha), rfl, false, rfl, iteF ⟨.ref a, rfl, a, _, rfl, .inl (SqL.of ha), rfl, false, rfl, iteF ⟨.ref a, rfl, a, _, rfl, .inl (SqL.of ha), rfl, true, rfl, iteT ?_⟩⟩⟩⟩
      exact ⟨.ref x, rfl, x, dx, _, rfl, hx, rfl, .ref a, rfl, a, _, 0, .int p, rfl, rfl, SqL.of ha, at_of (j := 0) rfl rfl, .ref a, rfl, a, _, 1, .int q, rfl, rfl, SqL.of ha, at_of (j := 1) rfl rfl, .ref a, rfl, a, _, 2, .int r, rfl, rfl, SqL.of ha, at_of (j := 2) rfl rfl, x, C1, R1, ds, rs, ld, [p, q, r], n, rfl, ca, cn, by show ld.length + 3 ≤ 2000; omega, hq⟩
    · refine ⟨.ref a, rfl, a, _, rfl, .inl (SqL.of ha), rfl, false, rfl, iteF ⟨.ref a, rfl, a, _, rfl, .inl (SqL.of ha), rfl, false, rfl, iteF ⟨.ref a, rfl, a, _, rfl, .inl (SqL.of ha), rfl, false, rfl, iteF ⟨.ref a, rfl, a, _, rfl, .inl (SqL.of ha), rfl, false, rfl, iteF ?_⟩⟩⟩⟩
      exact ⟨.ref x, rfl, x, dx, _, rfl, hx, rfl, .ref a, rfl, a, _, 0, .int p, rfl, rfl, SqL.of ha, at_of (j := 0) rfl rfl, .ref a, rfl, a, _, 1, .int q, rfl, rfl, SqL.of ha, at_of (j := 1) rfl rfl, .ref a, rfl, a, _, 2, .int r, rfl, rfl, SqL.of ha, at_of (j := 2) rfl rfl, .ref a, rfl, a, _, 3, .int t, rfl, rfl, SqL.of ha, at_of (j := 3) rfl rfl, x, C1, R1, ds, rs, ld, [p, q, r, t], n, rfl, ca, cn, by show ld.length + 4 ≤ 2000; omega, hq⟩
def spCL : Sp := fun vs H Q _ => ∃ (f a : Addr) (ns : List Int) (ds : List (Int × Int)) (rs : List Int) (r : Int), vs = [.ref f, .ref a, .int r] ∧ H a = some (.lst (ns.map V.int)) ∧ Cn ns ds rs ∧ ns.length ≤ 200 ∧ ∀ H' z yl rl cs0 r0, Same H H' → H' z = some (.lst yl) → PairsAt H' yl rl → rl.Pairwise Le → rl.Perm cs0 → Run (push rs r) cs0 r0 → NF r0 → Q (.ref z) H'
theorem ok_cl {f0 : Addr} {fd : FuncData} (F : Fun K "_law_closed" "_law_closed" E3T.sCL f0 fd) (T : Txt K mg fCO fRG fTP fIL fBT fSW fCH fMT fPB fCN fCR fPR fPN fPT fFE fTA fPI fLO fLP fLR fLH fPL fCT fAD fCL fSE C fIN pO fOF pC fPC pR fPR_ p3 fPH fPG fEQ fST CC fKI pKC fKC pKT fKT fKA fKP fKK dCO dRG dTP dIL dBT dSW dCH dMT dPB dCN dCR dPR dPN dPT dFE dTA dPI dLO dLP dLR dLH dPL dCT dAD dCL dSE dIN dOF dPC dPR_ dPH dPG dEQ dST dKI dKC dKT dKA dKP dKK) : FnOk P w K mg base CX0 5 f0 fd ["feed", "done", "reading"] spCL := by
  have GCO : FnOk P w K mg base CX0 1 fCO dCO ["outer", "inner"] (spCont K) := ok_Cont T.FCO
  have GRG : FnOk P w K mg base CX0 1 fRG dRG ["one", "other"] spRng := ok_Rng T.FRG T.min T.max
  have GIL : FnOk P w K mg base CX0 2 fIL dIL ["points", "reading"] (spLO K) := ok_LO T.FIL T.FBT T.gBT T.bBT T.len
  have GTP : FnOk P w K mg base CX0 3 fTP dTP ["load"] (spTP K) := both (ok_TPl T.FTP GIL T.gIL T.kIL T.bIL T.tuple) (ok_TPt T.FTP GIL T.gIL T.kIL T.bIL T.tuple)
  have GSW : FnOk P w K mg base CX0 4 fSW dSW ["load"] (spSw K) := ok_sw T.FSW GTP T.gTP T.kTP T.bTP (GRG.mono (by decide)) T.gRG T.kRG T.bRG T.zip
  have GMT : FnOk P w K mg base CX0 2 fMT dMT ["points", "place"] (spMT K) := ok_MT T.FMT T.abs
  have GPB : FnOk P w K mg base CX0 3 fPB dPB ["rest", "reading"] spPB := ok_PB T.FPB GIL T.gIL T.kIL T.bIL GMT T.gMT T.kMT T.bMT (GRG.mono (by decide)) T.gRG T.kRG T.bRG T.len
  have GCN : FnOk P w K mg base CX0 4 fCN dCN ["load"] (spCo K) := ok_Co T.FCN GPB T.gPB T.kPB T.bPB
  have GIN : FnOk P w K mg base CX0 1 fIN dIN ["self", "cycles", "rest"] (spInit K C) := ok_init T.FIN T.cn T.sorted T.tuple
  have GOF : FnOk P w K mg base CX0 5 fOF dOF ["cls", "load"] (spOf K C) := ok_of T.FOF T.mkc (GIN.mono (by decide)) T.bIN GCN T.gCN T.kCN T.bCN
  have GPC : FnOk P w K mg base CX0 1 fPC dPC ["self"] (spPC C) := ok_PC T.FPC T.cn
  have GPR : FnOk P w K mg base CX0 1 fPR_ dPR_ ["self"] (spPR C) := ok_PR T.FPR_ T.cn
  have GPH : FnOk P w K mg base CX0 5 fPH dPH ["self"] (spPH C) := ok_PH T.FPH T.cn GSW T.gSW T.kSW T.bSW T.sorted T.tuple
  have GPG : FnOk P w K mg base CX0 7 fPG dPG ["self", "low", "high"] (spPG C) := ok_PG T.FPG T.cn T.prH GPH T.bPH (GCO.mono (by decide)) T.gCO T.kCO T.bCO T.len
  have GEQ : FnOk P w K mg base CX0 1 fEQ dEQ ["self", "other"] (spEQ C) := ok_EQ T.FEQ T.cn T.ins T.gC T.isinstance
  have GTA : FnOk P w K mg base CX0 1 fTA dTA ["feed", "many"] spTake := ok_take T.FTA
  have GFE : FnOk P w K mg base CX0 1 fFE dFE ["script", "k"] (spFeed K) := ok_feed T.FFE T.len T.max T.abs
  have GLO : FnOk P w K mg base CX0 3 fLO dLO ["feed", "most"] spLoad := ok_load T.FLO T.FTA T.gTA T.bTA T.FPI T.gPI T.bPI T.len T.range T.min
  have GLP : FnOk P w K mg base CX0 1 fLP dLP ["load"] (spLP K) := ok_LP T.FLP T.len T.range T.int
  have GLR : FnOk P w K mg base CX0 1 fLR dLR ["one", "other"] spRng := ok_LR T.FLR T.min T.max
  have GLH : FnOk P w K mg base CX0 1 fLH dLH ["outer", "inner"] (spCont K) := ok_LH T.FLH
  have GPL : FnOk P w K mg base CX0 2 fPL dPL ["points"] (spPl K) := ok_pl T.FPL GLR T.gLR T.kLR T.bLR GLH T.gLH T.kLH T.bLH T.len T.range
  have GCT : FnOk P w K mg base CX0 3 fCT dCT ["feed", "load"] (UCT.spCt K) := UCT.ok_ct T.FCT (GLP.mono (by decide)) T.gLP T.kLP T.bLP GPL T.gPL T.kPL T.bPL (GLR.mono (by decide)) T.gLR T.kLR T.bLR T.sorted
  have GCR : FnOk P w K mg base CX0 1 fCR dCR ["cycles"] (spCR K) := ok_CR T.FCR T.gN
  have GPW2 : FnOk P w K mg base CX0 1 fPR dPR ["points"] (spPRw K) := ok_PRw T.FPR T.gN T.str
  have GST : FnOk P w K mg base CX0 2 fST dST ["self"] (spST C) := ok_ST T.FST T.cn GCR T.gCR T.kCR T.bCR GPW2 T.gPR T.kPR T.bPR
  have GCH : FnOk P w K mg base CX0 1 fCH dCH ["load", "low", "high"] (spCh K) := ok_ch T.FCH T.len T.zip
  have GPI : FnOk P w K mg base CX0 2 fPI dPI ["feed", "some"] (spPick K) := ok_pick T.FPI T.FTA T.gTA T.bTA T.len
  have GPN : FnOk P w K mg base CX0 1 fPN dPN ["row", "value"] spPI := BO.ok_PI T.FPN T.len
  have GPT : FnOk P w K mg base CX0 2 fPT dPT ["row", "value"] spPT := ok_PT T.FPT GPN T.gPN T.kPN T.bPN
  have GKI : FnOk P w K mg base CX0 1 fKI dKI ["self"] (spKI CC) := ok_KI T.FKI T.ctr
  have GKC : FnOk P w K mg base CX0 3 fKC dKC ["self"] (spKC CC C) := ok_KC T.FKC T.ctr T.mkc T.gC GIN T.bIN
  have GKT : FnOk P w K mg base CX0 1 fKT dKT ["self"] (spKT CC) := ok_KT T.FKT T.ctr
  have GKK : FnOk P w K mg base CX0 3 fKK dKK ["self", "cycles"] (spKK K CC) := ok_KK T.FKK T.ctr GPT T.gPT T.kPT T.bPT
  have GKP : FnOk P w K mg base CX0 4 fKP dKP ["self", "reading"] (spKP CC) := ok_KP T.FKP T.ctr GPB T.gPB T.kPB T.bPB T.tuple T.sorted T.list
  have GKA4 : FnR P w K mg base CX0 4 fKA (spKA CC) := ok_KA T.FKA T.ctr GPB T.gPB T.kPB T.bPB T.mK GKK T.bKK T.len
  have GKA : FnR P w K mg base CX0 4 fKA (spKA CC) := fun A outer s H us vs Q E hr => GKA4 A outer s H us vs Q E (hr.mono (by decide))
  have GCO := GCO.mono (show 1 ≤ 4 by decide)
  have GRG := GRG.mono (show 1 ≤ 4 by decide)
  have GIL := GIL.mono (show 2 ≤ 4 by decide)
  have GTP := GTP.mono (show 3 ≤ 4 by decide)
  have GSW := GSW.mono (show 4 ≤ 4 by decide)
  have GMT := GMT.mono (show 2 ≤ 4 by decide)
  have GPB := GPB.mono (show 3 ≤ 4 by decide)
  have GCN := GCN.mono (show 4 ≤ 4 by decide)
  have GIN := GIN.mono (show 1 ≤ 4 by decide)
  have GPC := GPC.mono (show 1 ≤ 3 by decide)
  have GPR := GPR.mono (show 1 ≤ 3 by decide)
  have GEQ := GEQ.mono (show 1 ≤ 3 by decide)
  have GTA := GTA.mono (show 1 ≤ 4 by decide)
  have GFE := GFE.mono (show 1 ≤ 4 by decide)
  have GLO := GLO.mono (show 3 ≤ 4 by decide)
  have GLP := GLP.mono (show 1 ≤ 4 by decide)
  have GLR := GLR.mono (show 1 ≤ 4 by decide)
  have GLH := GLH.mono (show 1 ≤ 4 by decide)
  have GPL := GPL.mono (show 2 ≤ 4 by decide)
  have GCT := GCT.mono (show 3 ≤ 4 by decide)
  have GCR := GCR.mono (show 1 ≤ 4 by decide)
  have GPW2 := GPW2.mono (show 1 ≤ 4 by decide)
  have GST := GST.mono (show 2 ≤ 2 by decide)
  have GCH := GCH.mono (show 1 ≤ 4 by decide)
  have GPI := GPI.mono (show 2 ≤ 4 by decide)
  have GPN := GPN.mono (show 1 ≤ 4 by decide)
  have GPT := GPT.mono (show 2 ≤ 4 by decide)
  have GKI := GKI.mono (show 1 ≤ 3 by decide)
  have GKC := GKC.mono (show 3 ≤ 3 by decide)
  have GKT := GKT.mono (show 1 ≤ 3 by decide)
  have GKK := GKK.mono (show 3 ≤ 4 by decide)
  have GKP := GKP.mono (show 4 ≤ 4 by decide)
  refine F.ok E3T.scCL (fun vs H Q E h => ?_) (fun cdv A outer s H vs Q E hr h => ?_)
  · obtain ⟨f, a, ns, ds, rs, r, rfl, _⟩ := h
    rfl
  · obtain ⟨f, a, ns, ds, rs, r, rfl, ha, cn, hl, hq⟩ := h
    refine ⟨_, (pss_cons (ps_set (i := 3) scCL.nd rfl (.inl rfl) (pe_ix ix_tup (pe_call GCT hr (by rfl) T.gCT T.kCT T.bCT .nil pass0 (pa_cons (pv 0) (pa_cons (pe_op op_cat (pv 1) (pe_lst (pa_cons (pv 2) pa_nil))) pa_nil))) pe_int (fun _ _ => rfl)))
      (pss_cons (ps_for PassesOwn.never rfl (pi_list (pe_ix ix_tup (pe_call GCT hr (by rfl) T.gCT T.kCT T.bCT .nil pass0 (pa_cons (pv 0) (pa_cons (pv 1) pa_nil))) pe_int (fun _ _ => rfl))) (pg_name (i := 4) scCL.nd rfl (.inl rfl))
      (pss_one (ps_expr (pe_bm PySem.F.plainAttrs_list PySem.F.slot_list_remove PySem.F.type_list_remove (RP.mt_remP (by have := hr.un; show (A.deeper _).units + 64 < cLine; omega)) (pv 3) (pa_cons (pv 4) pa_nil)))))
      (pss_one (ps_ret (pv 3))))), ?_⟩
    have l1s : 1 ≤ sizeLine := by decide
    -- left
    refine ⟨.ref f, rfl, .ref a, rfl, .int r, rfl, l1s, fun l nl => ?_⟩
    have sl := same_new (o := .lst [.int r]) nl
    refine ⟨a, l, _, _, rfl, rfl, sl _ _ ha, upd_same, Nat.le_of_lt (small3000 (by rw [List.length_map]; show ns.length + 1 ≤ 3000; omega)), fun z nz => ?_⟩
    have ez : (upd (upd H l (.lst [.int r])) z (.lst (ns.map V.int ++ [.int r]))) z = some (.lst ((ns ++ [r]).map V.int)) := by rw [upd_same, List.map_append]; rfl
    have sz := sl.trans (same_new (o := .lst (ns.map V.int ++ [.int r])) nz)
    generalize upd (upd H l (.lst [.int r])) z (.lst (ns.map V.int ++ [.int r])) = H1 at sz ez ⊢
    clear nz sl nl l
    have hnr : (ns ++ [r]).length = ns.length + 1 := by simp
    refine ⟨f, z, ns ++ [r], rfl, SqL.of ez, by omega, fun H2 p q1 q2 ys cs2 ds2 rs2 s2 np nq1 hp h1 pa perm srt h2 run2 nf2 => ?_⟩
    have g2 : Cn (ns ++ [r]) ds2 rs2 := ⟨⟨cs2, run2, perm⟩, nf2, srt⟩
    refine ⟨p, _, 0, .ref q1, rfl, rfl, SqT.of hp, at_of (j := 0) rfl rfl, ?_⟩
    have nq10 : H q1 = none := sz.free nq1
    have w2 := sz.trans s2
    clear run2 nf2 perm hp np h2 q2
    obtain ⟨cs0, r0, run0, nf0, p0⟩ := closes cn g2
    -- for cycle
    refine ⟨.ref f, rfl, .ref a, rfl, f, a, ns, rfl, SqL.of (w2 _ _ ha), by omega, fun H3 p3 q3 q4 ys3 cs3 ds3 rs3 s3 np3 nq3 hp3 h3 pa3 perm3 srt3 h4 run3 nf3 => ?_⟩
    obtain ⟨e3, _⟩ := cn_one rfl (⟨⟨cs3, run3, perm3⟩, nf3, srt3⟩ : Cn ns ds3 rs3) cn
    subst e3
    have n13 : q3 ≠ q1 := fun w => by rw [w, h1] at nq3; cases nq3
    have h13 := s3 _ _ h1
    have pa13 := pa.same s3
    have w3 := w2.trans s3
    refine ⟨p3, _, 0, .ref q3, rfl, rfl, SqT.of hp3, at_of (j := 0) rfl rfl, q3, rfl, ⟨_, SqL.of h3⟩, for_list (K := K) (a := q3) (xs := ys3) (fun i σ Hx => Ch q1 H3 Hx ∧ ∃ (yl : List V) (rl : List (Int × Int)) (r5 : Option V), σ = [some (.ref f), some (.ref a), some (.int r), some (.ref q1), r5] ∧ Hx q1 = some (.lst yl) ∧ PairsAt Hx yl rl ∧ rl.Pairwise Le ∧ rl.Perm (cs0 ++ ds3.drop i)) ⟨.refl _ _, ys, ds2, _, rfl, h13, pa13, srt, p0⟩ (fun i σ Hx _ g => SqL.of (g.1 _ _ n13 h3)) ?_ ?_⟩
    · rintro i v σ Hx hv ⟨cx, yl, rl, r5, rfl, hl1, pl, sr, pm⟩
      obtain ⟨q, c, rfl, hc, hq2⟩ := pairs_get pa3 hv
      have nq : q ≠ q1 := fun w => by rw [w, h13] at hq2; cases hq2
      have hd : ds3.drop i = c :: ds3.drop (i + 1) := by
        obtain ⟨hi, e⟩ := List.getElem?_eq_some_iff.mp hc
        rw [List.drop_eq_getElem_cons hi, e]
      have mem : c ∈ rl := pm.mem_iff.mpr (by rw [hd]; simp)
      obtain ⟨j, j1, j2, j3⟩ := first_at mem
      refine ⟨.ref q1, rfl, .inl ⟨rfl, _, SqL.of hl1⟩, .ref q, rfl, q1, q, yl, rl, c, j, rfl, rfl, hl1, pl, cx _ _ nq hq2, j1, j2, ?_⟩
      refine ⟨cx.trans .put, yl.eraseIdx j, rl.eraseIdx j, _, rfl, upd_same, pairs_upd hl1 (pairs_erase j pl), sr.sublist (List.eraseIdx_sublist _ _), ?_⟩
      have := j3.trans pm
      rw [hd] at this
      exact (List.perm_cons c).mp (this.trans List.perm_middle)
    rintro σ H4 ⟨c4, yl, rl, r5, rfl, hl1, pl, sr, pm⟩
    rw [pa3.length, List.drop_length, List.append_nil] at pm
    have s4 : Same H H4 := fun b o e => c4 b o (ne_of_none e nq10) (w3 _ _ e)
    clear c4 h3 pa3 hp3 np3 nq3 run3 nf3 perm3 srt3 h4 n13 h13 pa13 w3 s3 pa srt h1 s2 w2 sz ez nq1
    exact ⟨.ref q1, rfl, hq _ q1 yl rl cs0 r0 s4 hl1 pl sr pm run0 nf0⟩
end
end E3S

set_option pp.maxSteps 900
namespace E3V
open PySem PySem.Spec PyProof.Rows L2 KA KD KL PH PM PA PB PC RM RN RC RS QE QF QG QH QJ QK QL WN WF2 WP RJ BO BCt BCu E3T
open K9 (Cn cn_one)
open E3S
theorem zz_ne2 : ∀ {m : List Int} {b u : Int}, ZZ (m ++ [b, u]) → b ≠ u
  | [], _, _, h => zz_cons h
  | _ :: m, _, _, h => zz_ne2 (m := m) (ZZ.tail h)
theorem to_zero : ∀ {rs : List Int}, ZZ rs → (∀ x ∈ rs, 0 ≤ x) → push rs 0 = [0] ∨ ∃ m b, push rs 0 = m ++ [b, 0] ∧ 0 < b := by
  intro rs zz h
  match rs, zz, h with
  | [], _, _ => exact .inl rfl
  | [u], _, h =>
    by_cases e : u = 0
    · subst e; exact .inl rfl
    · right
      refine ⟨[], u, ?_, ?_⟩
      · show (if u = 0 then [0] else [u, 0]) = _
        rw [if_neg e]; rfl
      · have := h u (by simp)
        omega
  | x :: y :: t, zz, h =>
    obtain ⟨m, b, u, e⟩ := two_last (p := x :: y :: t) (by simp)
    rw [e] at zz h ⊢
    have hb := h b (by simp)
    have hu := h u (by simp)
    rw [push_two]
    by_cases c : u = 0 ∨ Btw u b 0
    · rw [if_pos c]
      right
      refine ⟨m, b, rfl, ?_⟩
      rcases c with c | c
      · have ne : b ≠ u := zz_ne2 zz
        omega
      · unfold Btw at c
        omega
    · rw [if_neg c]
      right
      refine ⟨m ++ [b], u, by simp, ?_⟩
      have : u ≠ 0 := fun z => c (.inl z)
      omega
theorem seven_two {ld : List Int} {ds ds' : List (Int × Int)} {rs rs' : List Int} (h : Cn ld ds rs) (hb : ∀ n ∈ ld, 0 ≤ n) (g : Cn (ld ++ [0, 4, 1, 5, 0, 9, 2]) ds' rs') : ds.length + 2 ≤ ds'.length := by
  obtain ⟨c0, r0, p0⟩ := h.ex
  obtain ⟨c1, r1, p1⟩ := g.ex
  have zr := r0.zz (tp_zz ld)
  have mem := (run_mem r0).1
  have all := run_l r0 [0, 4, 1, 5, 0, 9, 2]
  have key : ∃ m, tp (rs ++ [0, 4, 1, 5, 0, 9, 2]) = m ++ [0, 4, 1, 5, 0, 9, 2] := by
    rw [tp_app, zz_tp zr]
    show ∃ m, push (push (push (push (push (push (push rs 0) 4) 1) 5) 0) 9) 2 = _
    rcases to_zero zr (fun x hx => hb x (tp_mem (mem x hx))) with e | ⟨m, b, e, hpos⟩
    · rw [e]
      exact ⟨[], by decide⟩
    · rw [e, push_two, if_neg (by unfold Btw; omega)]
      have s1 : m ++ [b, 0, 4] = (m ++ [b]) ++ [0, 4] := by simp
      rw [s1, push_two, if_neg (by unfold Btw; omega)]
      have s2 : (m ++ [b]) ++ [0, 4, 1] = (m ++ [b] ++ [0]) ++ [4, 1] := by simp
      rw [s2, push_two, if_neg (by unfold Btw; omega)]
      have s3 : (m ++ [b] ++ [0]) ++ [4, 1, 5] = (m ++ [b] ++ [0] ++ [4]) ++ [1, 5] := by simp
      rw [s3, push_two, if_neg (by unfold Btw; omega)]
      have s4 : (m ++ [b] ++ [0] ++ [4]) ++ [1, 5, 0] = (m ++ [b] ++ [0] ++ [4] ++ [1]) ++ [5, 0] := by simp
      rw [s4, push_two, if_neg (by unfold Btw; omega)]
      have s5 : (m ++ [b] ++ [0] ++ [4] ++ [1]) ++ [5, 0, 9] = (m ++ [b] ++ [0] ++ [4] ++ [1] ++ [5]) ++ [0, 9] := by simp
      rw [s5, push_two, if_neg (by unfold Btw; omega)]
      exact ⟨m ++ [b], by simp⟩
  obtain ⟨m, em⟩ := key
  rw [em] at all
  have st1 : Step (m ++ [0, 4, 1, 5, 0, 9, 2]) (rg 4 1) (m ++ [0, 5, 0, 9, 2]) := (Step.here (by decide)).prefix m
  have st2 : Step (m ++ [0, 5, 0, 9, 2]) (rg 5 0) (m ++ [0, 9, 2]) := (Step.here (by decide)).prefix m
  obtain ⟨c2, r2, run2, nf2⟩ := RM.ends _ (m ++ [0, 9, 2]) (Nat.le_refl _)
  have whole := Run.append all (Run.cons st1 (Run.cons st2 run2))
  obtain ⟨_, e⟩ := RM.one_count (tp_zz _) r1 g.nf whole nf2
  have l0 := p0.length_eq
  have l1 := p1.length_eq
  have l2 := e.length_eq
  simp only [List.length_append, List.length_cons] at l2
  omega
section
variable {P : Program} {w : World} {K : PySem.W.Frag} {mg : Str → Option Value} {base : Heap} {fCO fRG fTP fIL fBT fSW fCH fMT fPB fCN fCR fPR fPN fPT fFE fTA fPI fLO fLP fLR fLH fPL fCT fAD fCL fSE C fIN pO fOF pC fPC pR fPR_ p3 fPH fPG fEQ fST CC fKI pKC fKC pKT fKT fKA fKP fKK : Addr} {dCO dRG dTP dIL dBT dSW dCH dMT dPB dCN dCR dPR dPN dPT dFE dTA dPI dLO dLP dLR dLH dPL dCT dAD dCL dSE dIN dOF dPC dPR_ dPH dPG dEQ dST dKI dKC dKT dKA dKP dKK : FuncData}
def spSE : Sp := fun vs H Q _ => ∃ (f : Addr), vs = [.ref f] ∧ FeedAt H f ∧ ∀ H', Ch f H H' → FeedAt H' f → Q (.bl true) H'
theorem ok_se {f0 : Addr} {fd : FuncData} (F : Fun K "_law_seven_right" "_law_seven_right" E3T.sSE f0 fd) (T : Txt K mg fCO fRG fTP fIL fBT fSW fCH fMT fPB fCN fCR fPR fPN fPT fFE fTA fPI fLO fLP fLR fLH fPL fCT fAD fCL fSE C fIN pO fOF pC fPC pR fPR_ p3 fPH fPG fEQ fST CC fKI pKC fKC pKT fKT fKA fKP fKK dCO dRG dTP dIL dBT dSW dCH dMT dPB dCN dCR dPR dPN dPT dFE dTA dPI dLO dLP dLR dLH dPL dCT dAD dCL dSE dIN dOF dPC dPR_ dPH dPG dEQ dST dKI dKC dKT dKA dKP dKK) : FnOk P w K mg base CX0 6 f0 fd ["feed"] spSE := by
  have GCO : FnOk P w K mg base CX0 1 fCO dCO ["outer", "inner"] (spCont K) := ok_Cont T.FCO
  have GRG : FnOk P w K mg base CX0 1 fRG dRG ["one", "other"] spRng := ok_Rng T.FRG T.min T.max
  have GIL : FnOk P w K mg base CX0 2 fIL dIL ["points", "reading"] (spLO K) := ok_LO T.FIL T.FBT T.gBT T.bBT T.len
  have GTP : FnOk P w K mg base CX0 3 fTP dTP ["load"] (spTP K) := both (ok_TPl T.FTP GIL T.gIL T.kIL T.bIL T.tuple) (ok_TPt T.FTP GIL T.gIL T.kIL T.bIL T.tuple)
  have GSW : FnOk P w K mg base CX0 4 fSW dSW ["load"] (spSw K) := ok_sw T.FSW GTP T.gTP T.kTP T.bTP (GRG.mono (by decide)) T.gRG T.kRG T.bRG T.zip
  have GMT : FnOk P w K mg base CX0 2 fMT dMT ["points", "place"] (spMT K) := ok_MT T.FMT T.abs
  have GPB : FnOk P w K mg base CX0 3 fPB dPB ["rest", "reading"] spPB := ok_PB T.FPB GIL T.gIL T.kIL T.bIL GMT T.gMT T.kMT T.bMT (GRG.mono (by decide)) T.gRG T.kRG T.bRG T.len
  have GCN : FnOk P w K mg base CX0 4 fCN dCN ["load"] (spCo K) := ok_Co T.FCN GPB T.gPB T.kPB T.bPB
  have GIN : FnOk P w K mg base CX0 1 fIN dIN ["self", "cycles", "rest"] (spInit K C) := ok_init T.FIN T.cn T.sorted T.tuple
  have GOF : FnOk P w K mg base CX0 5 fOF dOF ["cls", "load"] (spOf K C) := ok_of T.FOF T.mkc (GIN.mono (by decide)) T.bIN GCN T.gCN T.kCN T.bCN
  have GPC : FnOk P w K mg base CX0 1 fPC dPC ["self"] (spPC C) := ok_PC T.FPC T.cn
  have GPR : FnOk P w K mg base CX0 1 fPR_ dPR_ ["self"] (spPR C) := ok_PR T.FPR_ T.cn
  have GPH : FnOk P w K mg base CX0 5 fPH dPH ["self"] (spPH C) := ok_PH T.FPH T.cn GSW T.gSW T.kSW T.bSW T.sorted T.tuple
  have GPG : FnOk P w K mg base CX0 7 fPG dPG ["self", "low", "high"] (spPG C) := ok_PG T.FPG T.cn T.prH GPH T.bPH (GCO.mono (by decide)) T.gCO T.kCO T.bCO T.len
  have GEQ : FnOk P w K mg base CX0 1 fEQ dEQ ["self", "other"] (spEQ C) := ok_EQ T.FEQ T.cn T.ins T.gC T.isinstance
  have GTA : FnOk P w K mg base CX0 1 fTA dTA ["feed", "many"] spTake := ok_take T.FTA
  have GFE : FnOk P w K mg base CX0 1 fFE dFE ["script", "k"] (spFeed K) := ok_feed T.FFE T.len T.max T.abs
  have GLO : FnOk P w K mg base CX0 3 fLO dLO ["feed", "most"] spLoad := ok_load T.FLO T.FTA T.gTA T.bTA T.FPI T.gPI T.bPI T.len T.range T.min
  have GLP : FnOk P w K mg base CX0 1 fLP dLP ["load"] (spLP K) := ok_LP T.FLP T.len T.range T.int
  have GLR : FnOk P w K mg base CX0 1 fLR dLR ["one", "other"] spRng := ok_LR T.FLR T.min T.max
  have GLH : FnOk P w K mg base CX0 1 fLH dLH ["outer", "inner"] (spCont K) := ok_LH T.FLH
  have GPL : FnOk P w K mg base CX0 2 fPL dPL ["points"] (spPl K) := ok_pl T.FPL GLR T.gLR T.kLR T.bLR GLH T.gLH T.kLH T.bLH T.len T.range
  have GCT : FnOk P w K mg base CX0 3 fCT dCT ["feed", "load"] (UCT.spCt K) := UCT.ok_ct T.FCT (GLP.mono (by decide)) T.gLP T.kLP T.bLP GPL T.gPL T.kPL T.bPL (GLR.mono (by decide)) T.gLR T.kLR T.bLR T.sorted
  have GCR : FnOk P w K mg base CX0 1 fCR dCR ["cycles"] (spCR K) := ok_CR T.FCR T.gN
  have GPW2 : FnOk P w K mg base CX0 1 fPR dPR ["points"] (spPRw K) := ok_PRw T.FPR T.gN T.str
  have GST : FnOk P w K mg base CX0 2 fST dST ["self"] (spST C) := ok_ST T.FST T.cn GCR T.gCR T.kCR T.bCR GPW2 T.gPR T.kPR T.bPR
  have GCH : FnOk P w K mg base CX0 1 fCH dCH ["load", "low", "high"] (spCh K) := ok_ch T.FCH T.len T.zip
  have GPI : FnOk P w K mg base CX0 2 fPI dPI ["feed", "some"] (spPick K) := ok_pick T.FPI T.FTA T.gTA T.bTA T.len
  have GPN : FnOk P w K mg base CX0 1 fPN dPN ["row", "value"] spPI := BO.ok_PI T.FPN T.len
  have GPT : FnOk P w K mg base CX0 2 fPT dPT ["row", "value"] spPT := ok_PT T.FPT GPN T.gPN T.kPN T.bPN
  have GKI : FnOk P w K mg base CX0 1 fKI dKI ["self"] (spKI CC) := ok_KI T.FKI T.ctr
  have GKC : FnOk P w K mg base CX0 3 fKC dKC ["self"] (spKC CC C) := ok_KC T.FKC T.ctr T.mkc T.gC GIN T.bIN
  have GKT : FnOk P w K mg base CX0 1 fKT dKT ["self"] (spKT CC) := ok_KT T.FKT T.ctr
  have GKK : FnOk P w K mg base CX0 3 fKK dKK ["self", "cycles"] (spKK K CC) := ok_KK T.FKK T.ctr GPT T.gPT T.kPT T.bPT
  have GKP : FnOk P w K mg base CX0 4 fKP dKP ["self", "reading"] (spKP CC) := ok_KP T.FKP T.ctr GPB T.gPB T.kPB T.bPB T.tuple T.sorted T.list
  have GKA4 : FnR P w K mg base CX0 4 fKA (spKA CC) := ok_KA T.FKA T.ctr GPB T.gPB T.kPB T.bPB T.mK GKK T.bKK T.len
  have GKA : FnR P w K mg base CX0 5 fKA (spKA CC) := fun A outer s H us vs Q E hr => GKA4 A outer s H us vs Q E (hr.mono (by decide))
  have GCO := GCO.mono (show 1 ≤ 5 by decide)
  have GRG := GRG.mono (show 1 ≤ 5 by decide)
  have GIL := GIL.mono (show 2 ≤ 5 by decide)
  have GTP := GTP.mono (show 3 ≤ 5 by decide)
  have GSW := GSW.mono (show 4 ≤ 5 by decide)
  have GMT := GMT.mono (show 2 ≤ 5 by decide)
  have GPB := GPB.mono (show 3 ≤ 5 by decide)
  have GCN := GCN.mono (show 4 ≤ 5 by decide)
  have GIN := GIN.mono (show 1 ≤ 5 by decide)
  have GOF := GOF.mono (show 5 ≤ 5 by decide)
  have GPC := GPC.mono (show 1 ≤ 4 by decide)
  have GPR := GPR.mono (show 1 ≤ 4 by decide)
  have GEQ := GEQ.mono (show 1 ≤ 4 by decide)
  have GTA := GTA.mono (show 1 ≤ 5 by decide)
  have GFE := GFE.mono (show 1 ≤ 5 by decide)
  have GLO := GLO.mono (show 3 ≤ 5 by decide)
  have GLP := GLP.mono (show 1 ≤ 5 by decide)
  have GLR := GLR.mono (show 1 ≤ 5 by decide)
  have GLH := GLH.mono (show 1 ≤ 5 by decide)
  have GPL := GPL.mono (show 2 ≤ 5 by decide)
  have GCT := GCT.mono (show 3 ≤ 5 by decide)
  have GCR := GCR.mono (show 1 ≤ 5 by decide)
  have GPW2 := GPW2.mono (show 1 ≤ 5 by decide)
  have GST := GST.mono (show 2 ≤ 3 by decide)
  have GCH := GCH.mono (show 1 ≤ 5 by decide)
  have GPI := GPI.mono (show 2 ≤ 5 by decide)
  have GPN := GPN.mono (show 1 ≤ 5 by decide)
  have GPT := GPT.mono (show 2 ≤ 5 by decide)
  have GKI := GKI.mono (show 1 ≤ 4 by decide)
  have GKC := GKC.mono (show 3 ≤ 4 by decide)
  have GKT := GKT.mono (show 1 ≤ 4 by decide)
  have GKK := GKK.mono (show 3 ≤ 5 by decide)
  have GKP := GKP.mono (show 4 ≤ 5 by decide)
  refine F.ok E3T.scSE (fun vs H Q E h => ?_) (fun cdv A outer s H vs Q E hr h => ?_)
  · obtain ⟨f, rfl, _⟩ := h
    rfl
  · obtain ⟨f, rfl, fe, hq⟩ := h
    refine ⟨_, (pss_cons (ps_setLc (i := 1) (own := [("turn", 14)]) (g := gName 14) (te := tCall spTake [] E0 (tCons (tVar 0) (tCons (tC (V.int 6)) tNil))) rfl scSE.nd rfl rfl (sw_true rfl rfl rfl (by decide +kernel)) (pi_range1 rfl T.range (pa_cons pe_int pa_nil)) (blkOk_by (own := [("turn", 14)]) (N := ["feed", "load", "a", "b", "c", "d", "e", "f", "g", "counter", "closed_by", "cycles", "rest", "now", "turn"]) (sc := defScope sSE) (by decide +kernel)) (fun _ _ _ _ _ => (pg_name (i := 14) scSE.nd rfl (Or.inl rfl) (Or.inr rfl))) (fun _ _ _ _ _ => pts_nil) (fun _ _ _ _ _ => (pe_call GTA hr (by rfl) T.gTA T.kTA T.bTA .nil pass0 (pa_cons (pv 0) (pa_cons pe_int pa_nil)))))
      (pss_cons (ps_asg (pv 1) (pg_unl rfl (pgs_cons (pg_name (i := 2) scSE.nd rfl (.inl rfl)) (pgs_cons (pg_name (i := 3) scSE.nd rfl (.inl rfl)) (pgs_cons (pg_name (i := 4) scSE.nd rfl (.inl rfl)) (pgs_cons (pg_name (i := 5) scSE.nd rfl (.inl rfl)) (pgs_cons (pg_name (i := 6) scSE.nd rfl (.inl rfl)) (pgs_cons (pg_name (i := 7) scSE.nd rfl (.inl rfl)) (pgs_cons (pg_name (i := 8) scSE.nd rfl (.inl rfl)) pgs_nil)))))))))
      (pss_cons (ps_set (i := 9) scSE.nd rfl (.inl rfl) (pe_make0 T.mkk GKI hr (by rfl) T.gK T.bKI .nil pass0))
      (pss_cons (ps_set (i := 10) scSE.nd rfl (.inl rfl) (pe_methR (pv 9) T.ctr.cl T.mA GKA hr pass0 (pa_cons (pv 2) (pa_cons (pv 3) (pa_cons (pv 4) (pa_cons (pv 5) (pa_cons (pv 6) (pa_cons (pv 7) (pa_cons (pv 8) pa_nil)))))))))
      (pss_cons (ps_asg (pe_call GCT hr (by rfl) T.gCT T.kCT T.bCT .nil pass0 (pa_cons (pv 0) (pa_cons (pv 1) pa_nil))) (pg_tup rfl (pgs_cons (pg_name (i := 11) scSE.nd rfl (.inl rfl)) (pgs_cons (pg_name (i := 12) scSE.nd rfl (.inl rfl)) pgs_nil))))
      (pss_cons (ps_set (i := 13) scSE.nd rfl (.inl rfl) (pe_prop (pv 9) T.ctr.cl T.prK GKC hr T.bKC .nil pass0 (by rfl)))
      (pss_cons (ps_if (PW.pt (pw_or (pt_cmpR op_ne (pv 10) (pe_callB call_len_seq (by rfl) T.len PySem.boot_len (pa_cons (pv 11) pa_nil)) (nomark _)) (pw_or (pt_cmpR op_ne (pe_prop (pv 9) T.ctr.cl T.prT GKT hr T.bKT .nil pass0 (by rfl)) pe_int (nomark _)) (pw_or1 (pt_cmpR (op_neD hr.units) (pe_prop (pv 13) T.cn.cl T.prC GPC hr T.bPC .nil pass0 (by rfl)) (pe_callTy call_tuple_of (by rfl) T.tuple (by decide +kernel) (pa_cons (pv 11) pa_nil)) (nomark _)))))) (pss_one (ps_ret pe_bl)) pss_nil)
      (pss_one (ps_ret (pe_and (pe_cmpR (op_eqD hr.units) (pe_prop (pv 13) T.cn.cl T.prR GPR hr T.bPR_ .nil pass0 (by rfl)) (pe_callTy call_tuple_of (by rfl) T.tuple (by decide +kernel) (pa_cons (pv 12) pa_nil)) (nomark _)) (pe_one (pe_cmpR op_ge (pe_methR (pv 9) T.ctr.cl T.mA GKA hr pass0 (pa_cons pe_int (pa_cons pe_int (pa_cons pe_int (pa_cons pe_int (pa_cons pe_int (pa_cons pe_int (pa_cons pe_int pa_nil)))))))) pe_int (nomark _))))))))))))), ?_⟩
    refine ⟨7, rfl, by decide, by decide, fun D nD => ?_⟩
    have nDf : D ≠ f := fe.ne nD
    refine lc_range (lo := 0) (n := (7 : Int).toNat) (fun i Hx => Ch f H Hx ∧ FeedAt Hx f ∧ ∃ es : List Int, Hx D = some (.lst (es.map V.int)) ∧ es.length = i ∧ ∀ x ∈ es, 0 ≤ x ∧ x < 6) ⟨.new nD, fe.upd nDf, [], upd_same, rfl, fun _ z => (List.not_mem_nil z).elim⟩ ?_ ?_
    · rintro i Hx hi ⟨cx, fex, es, eD, hl, hes⟩
      have hi7 : i < 7 := hi
      refine ⟨rfl, ?_⟩
      refine iteT (B := True) ?_
      refine ⟨.ref f, rfl, f, 6, rfl, by decide, by decide, fex, fun H2 v c2 fe2 v0 v1 => ?_⟩
      refine ⟨_, c2 _ _ nDf eD, by rw [List.length_map]; exact small3000 (by omega), Ch.again nD (cx.trans c2), fe2.upd nDf, es ++ [v], ?_, by simp [hl], fun x hx => ?_⟩
      · rw [upd_same, List.map_append]; rfl
      · rcases List.mem_append.mp hx with z | z
        · exact hes x z
        · rw [List.mem_singleton.mp z]; exact ⟨v0, v1⟩
    rintro H2 ⟨c2, fe2, es, eD, hel, hes⟩
    obtain ⟨a, b, c, d, e, f', g, rfl⟩ : ∃ a b c d e f' g, es = [a, b, c, d, e, f', g] := by
      have h7 : es.length = 7 := hel
      match es, h7 with
      | [a, b, c, d, e, f', g], _ => exact ⟨a, b, c, d, e, f', g, rfl⟩
    refine ⟨.ref D, rfl, D, _, rfl, SqL.of eD, rfl, .int a, _, rfl, .int b, _, rfl, .int c, _, rfl, .int d, _, rfl, .int e, _, rfl, .int f', _, rfl, .int g, _, rfl, rfl, ?_⟩
    have hD0 : H D = none := nD
    have eDf : D ≠ f := nDf
    intro x dx nx ndx nn
    have s0 : Same H2 (upd (upd H2 dx (.own x)) x (.ins CC dx [])) := (same_new ndx).trans (same_new (by rw [upd_ne nn.symm]; exact nx))
    refine ⟨x, dx, rfl, upd_same, fun H3 C1 R1 keep ca nC nR => ⟨rfl, ?_⟩⟩
    have nC0 : H2 C1 = none := s0.free nC
    have nR0 : H2 R1 = none := s0.free nR
    have s3 : Same H2 H3 := fun b o e => keep b o (ne_of_none e nx) (s0 _ _ e)
    have eD3 := s3 _ _ eD
    have fe3 := fe2.same s3
    have nxf := fe2.ne nx
    have nCf := fe2.ne nC0
    have nRf := fe2.ne nR0
    have hx0 := ca.ins
    obtain ⟨dx1, hx1⟩ := ca.ins
    refine ⟨.ref x, rfl, x, dx1, _, rfl, hx1, rfl, .int a, rfl, .int b, rfl, .int c, rfl, .int d, rfl, .int e, rfl, .int f', rfl, .int g, rfl, x, C1, R1, [], [], [], [a, b, c, d, e, f', g], _, rfl, ca, cn_nil, by show 0 + 7 ≤ 2000; omega, fun H4 ds rs c4 ca4 cn4 => ?_⟩
    have nDx : D ≠ x := fun z => by rw [z, nx] at eD; cases eD
    have nDC : D ≠ C1 := fun z => by rw [z, nC0] at eD; cases eD
    have nDR : D ≠ R1 := fun z => by rw [z, nR0] at eD; cases eD
    have s4 : Same H2 H4 := fun b o e => c4 b o (ne_of_none e nx) (ne_of_none e nC0) (ne_of_none e nR0) (s3 _ _ e)
    have eD4 := s4 _ _ eD
    have fe4 := fe2.same s4
    simp only [List.nil_append] at cn4
    -- cycles, rest
    refine ⟨.ref f, rfl, .ref D, rfl, f, D, _, rfl, SqL.of eD4, by show 7 ≤ 500; omega, fun H5 p q1 q2 ys cs2 ds2 rs2 s5 np nq1 hp h1 pa perm srt h2 run2 nf2 => ?_⟩
    obtain ⟨ed, er⟩ := cn_one rfl (⟨⟨cs2, run2, perm⟩, nf2, srt⟩ : Cn _ ds2 rs2) cn4
    subst ed er
    refine ⟨p, _, rfl, SqT.of hp, rfl, .ref q1, [.ref q2], rfl, .ref q2, [], rfl, rfl, ?_⟩
    have ca5 := ca4.same s5
    obtain ⟨dx5, hx5⟩ := ca5.ins
    refine ⟨.ref x, rfl, x, dx5, _, rfl, hx5, x, C1, R1, _, _, _, rfl, ca5, fun H6 y s6 ny cy => ?_⟩
    have yl := pa.length
    have dl : (((ds2.length : Nat) : Int) - (([] : List (Int × Int)).length : Nat)) = (ys.length : Int) := by rw [yl]; show ((ds2.length : Nat) : Int) - ((0 : Nat) : Int) = _; omega
    refine ⟨.int (((ds2.length : Nat) : Int) - (([] : List (Int × Int)).length : Nat)), rfl, .ref q1, rfl, q1, ys, rfl, .inl (SqL.of (s6 _ _ h1)), rfl, _, rfl, iteNS (congrArg V.int dl) ?_⟩
    have ca6 := ca5.same s6
    obtain ⟨dx6, hx6⟩ := ca6.ins
    refine ⟨.ref x, rfl, x, dx6, _, rfl, hx6, x, C1, R1, _, _, _, rfl, ca6, rfl, _, rfl, iteNS rfl ?_⟩
    obtain ⟨dy, k1, k2, hy⟩ := sat2 cy
    refine ⟨.ref y, rfl, y, dy, _, rfl, hy, y, _, _, rfl, cy, fun t2 ys2 ht2 pa2 => ?_⟩
    refine ⟨.ref q1, rfl, q1, ys, rfl, .inl ⟨SqL.of (s6 _ _ h1), fun u nu => ?_⟩⟩
    have su := same_new (o := .tup ys) nu
    refine ⟨.tuple (dPairs ds2), .tuple (dPairs ds2), .tup (SqT.of (su _ _ ht2)) (dp_pairs (pa2.same su)), .tup (SqT.of upd_same) (dp_pairs ((pa.same s6).same su)), shaped_tpr _, shaped_tpr _, _, rfl, ?_⟩
    rw [eqv_same (shaped_tpr _)]
    refine iteF ?_
    refine ⟨.ref y, rfl, y, dy, _, rfl, su _ _ hy, y, _, _, rfl, cy.same su, fun t3 ht3 => ?_⟩
    refine ⟨.ref q2, rfl, q2, _, rfl, .inl ⟨SqL.of (su _ _ (s6 _ _ h2)), fun u2 nu2 => ?_⟩⟩
    have su2 := same_new (o := .tup (rs2.map V.int)) nu2
    refine ⟨.tuple (dInts rs2), .tuple (dInts rs2), .tup (SqT.of (su2 _ _ ht3)) (dp_ints _), .tup (SqT.of upd_same) (dp_ints _), shaped_tup _, shaped_tup _, _, rfl, ?_⟩
    rw [eqv_same (shaped_tup _)]
    refine iteT ?_
    have w7 := s6.trans (su.trans su2)
    have ca7 := ca5.same w7
    obtain ⟨dx7, hx7⟩ := ca7.ins
    refine ⟨.ref x, rfl, x, dx7, _, rfl, hx7, rfl, x, C1, R1, _, _, [a, b, c, d, e, f', g], [0, 4, 1, 5, 0, 9, 2], _, rfl, ca7, cn4, by show 7 + 7 ≤ 2000; omega, fun H8 ds' rs' c8 ca8 cn8 => ?_⟩
    have big := seven_two cn4 (fun n hn => (hes n hn).1) cn8
    refine ⟨_, 2, rfl, rfl, ?_⟩
    show Q (V.bl (decide ((2 : Int) ≤ ((ds'.length : Nat) : Int) - (ds2.length : Nat)))) H8
    rw [decide_eq_true (show (2 : Int) ≤ ((ds'.length : Nat) : Int) - (ds2.length : Nat) by omega)]
    have sm8 : Same H2 H8 := fun b o e => c8 b o (ne_of_none e nx) (ne_of_none e nC0) (ne_of_none e nR0) (w7 _ _ (s5 _ _ (s4 _ _ e)))
    exact hq _ (c2.trans (Ch.of_same sm8)) (fe2.same sm8)
end
end E3V

set_option pp.maxSteps 900
namespace E3L
open PySem PySem.Spec PyProof.Rows L2 KA KD KL PH PM PA PB PC RM RN RC RS QE QF QG QH QJ QK QL WN WF2 WP RJ BO BCt BCu E3T
open K9 (Cn cn_one)
open E3S E3V
def CpOk (s : Str) : Prop := ∀ c ∈ s.cps.toList, c < 16 ^ 8
theorem cp_of (s : String) : CpOk (Str.ofString s) := fun c hc => by
  rw [Str.ofString_eq_toList] at hc
  obtain ⟨ch, _, rfl⟩ := List.mem_map.mp (show c ∈ s.toList.map Char.toNat by simpa using hc)
  exact Nat.lt_of_lt_of_eq ch.val.toNat_lt (by decide)
theorem cp_app {x y : Str} (hx : CpOk x) (hy : CpOk y) : CpOk (x ++ y) := fun c hc => by
  have e : (x ++ y).cps.toList = x.cps.toList ++ y.cps.toList := by show (x.cps ++ y.cps).toList = _; rw [Array.toList_append]
  rw [e] at hc
  rcases List.mem_append.mp hc with z | z
  · exact hx c z
  · exact hy c z
theorem cp_sjoin {sep : Str} (hs : CpOk sep) : ∀ {xs : List Str}, (∀ x ∈ xs, CpOk x) → CpOk (Str.join sep xs)
  | [], _ => fun c hc => (List.not_mem_nil (show c ∈ ([] : List Nat) from hc)).elim
  | [x], h => h x List.mem_cons_self
  | x :: y :: xs, h => cp_app (cp_app (h x List.mem_cons_self) hs) (cp_sjoin hs fun z hz => h z (List.mem_cons_of_mem _ hz))
theorem cp_join {sep : Str} {xs : List Str} (hs : CpOk sep) (h : ∀ x ∈ xs, CpOk x) : CpOk (Txt.join sep xs) := by
  show CpOk (Builtin.Str.glued sep xs)
  rw [StrLaws.glued_eq_join]
  exact cp_sjoin hs h
theorem cp_ti (i : Int) : CpOk (ti i) := cp_of _
theorem cp_txC (r : Int × Int) : CpOk (txC r) := cp_app (cp_app (cp_app (fun c hc => (List.not_mem_nil (show c ∈ ([] : List Nat) from hc)).elim) (cp_ti _)) (cp_of _)) (cp_ti _)
theorem cp_txt (ds : List (Int × Int)) (rs : List Int) : CpOk (txt ds rs) := by
  refine cp_join (cp_of _) fun x hx => ?_
  simp only [List.mem_cons, List.not_mem_nil, or_false] at hx
  rcases hx with rfl | rfl
  · unfold rowC
    split
    · exact cp_of _
    · exact cp_join (cp_of _) fun x hx => by
        obtain ⟨r, _, rfl⟩ := List.mem_map.mp hx
        exact cp_txC r
  · unfold rowP
    split
    · exact cp_of _
    · exact cp_join (cp_of _) fun x hx => by
        obtain ⟨r, _, rfl⟩ := List.mem_map.mp hx
        exact cp_ti r
theorem txt_len {ds : List (Int × Int)} {rs : List Int} (h : Small ds rs) : (txt ds rs).length ≤ 200002 := by
  obtain ⟨b1, b2, b3, b4⟩ := h
  have l1 := rowC_len b1 b3
  have l2 := rowP_len b2 b4
  have h2 : (("\n" : Str)).length = 1 := by decide +kernel
  unfold txt
  show (Builtin.Str.glued _ _).length ≤ _
  rw [StrLaws.glued_eq_join]
  show (rowC ds ++ "\n" ++ rowP rs).length ≤ _
  rw [len_app, len_app, h2]
  omega
/-- what stands at the refs of a tuple of three: text, half-cycles, a number -/
def dSay (s : Str) (es : List (Int × Int)) (n : Int) : PyData := .tuple [.str s, .tuple (dPairs es), .int n]
theorem nice_say {s : Str} {es : List (Int × Int)} {n : Int} (cp : CpOk s) (hs : s.length ≤ 200002) (h : ∀ r ∈ es, r.1.natAbs < 2 ^ 39 ∧ r.2.natAbs < 2 ^ 39) (hl : es.length ≤ 2000) (hn : n.natAbs < 2 ^ 39) : Nice (dSay s es n) := by
  have a1 := pairs_show es h
  have a2 := show_int hn
  have b1 := pairs_dict es
  have c1 := depth_pairs es
  have d1 := pairs_leaves es h
  have d2 := leaf_int hn
  have e1 := pairs_weight es h
  have e2 := weight_int hn
  have e3 : s.cps.size ≤ 200002 := hs
  refine ⟨?_, ?_, ?_, ?_⟩
  · unfold dSay
    simp only [PyData.showable, PyData.showableAll, a1] at a2 ⊢
    rw [a2]; rfl
  · unfold dSay
    simp only [PyData.hasDict, PyData.hasDictAll, b1, Bool.or_self]
  · unfold dSay
    simp only [PyData.depth, PyData.depthAll]
    omega
  · refine PyData.shown_fits (B := 13) (by decide) (by decide) ?_ ?_
    · unfold dSay
      have cp' : (s.cps.toList.all fun c => decide (c < 16 ^ 8)) = true := List.all_eq_true.mpr fun c hc => decide_eq_true (cp c hc)
      simp only [PyData.leavesShort, PyData.leavesShortAll, d1] at d2 ⊢
      rw [cp', d2]; rfl
    · unfold dSay
      simp only [PyData.weight, PyData.weightAll] at e2 ⊢
      omega
theorem cut_both (xs : List V) (i j : Nat) : cutV xs (some (i : Int)) (some (j : Int)) = (xs.drop (min i xs.length)).take (min j xs.length - min i xs.length) := by
  unfold cutV
  have e : ∀ (n d k : Nat), HT.sIx n d (some (k : Int)) = min k n := fun n d k => by
    show (if ((k : Int)) < 0 then ((k : Int) + (n : Int)).toNat else min ((k : Int)).toNat n) = min k n
    rw [if_neg (by omega)]
    rfl
  rw [e, e]
/-- what stands in the law's loop -/
structure R3 (H : Hp) (CC f x C1 R1 p D : Addr) (ds : List (Int × Int)) (rs la dn : List Int) (Hx : Hp) : Prop where
  sm : Same H Hx
  fe : FeedAt Hx f
  ca : CtrAt Hx CC x C1 R1 ds rs (dn.length : Nat)
  cn : Cn dn ds rs
  hp : Hx p = some (.lst (la.map V.int))
  hD : Hx D = some (.lst (dn.map V.int))
  hf : H f = none
  hx : H x = none
  hC : H C1 = none
  hR : H R1 = none
  nx : x ≠ f
  nC : C1 ≠ f
  nR : R1 ≠ f
  np : p ≠ f
  nD : D ≠ f
  pC : p ≠ C1
  pR : p ≠ R1
  DC : D ≠ C1
  DR : D ≠ R1
section
variable {H : Hp} {CC f x C1 R1 p D : Addr} {ds : List (Int × Int)} {rs la dn : List Int} {H1 H2 : Hp}
theorem R3.px (g : R3 H CC f x C1 R1 p D ds rs la dn H1) : p ≠ x := fun z => by
  obtain ⟨dx, h⟩ := g.ca.ins
  have := g.hp
  rw [z, h] at this; cases this
theorem R3.Dx (g : R3 H CC f x C1 R1 p D ds rs la dn H1) : D ≠ x := fun z => by
  obtain ⟨dx, h⟩ := g.ca.ins
  have := g.hD
  rw [z, h] at this; cases this
theorem R3.same (g : R3 H CC f x C1 R1 p D ds rs la dn H1) (s : Same H1 H2) : R3 H CC f x C1 R1 p D ds rs la dn H2 :=
  ⟨g.sm.trans s, g.fe.same s, g.ca.same s, g.cn, s _ _ g.hp, s _ _ g.hD, g.hf, g.hx, g.hC, g.hR, g.nx, g.nC, g.nR, g.np, g.nD, g.pC, g.pR, g.DC, g.DR⟩
theorem ctr_ch {ca0 : True} {H H' : Hp} {CC x C1 R1 f : Addr} {ds : List (Int × Int)} {rs : List Int} {n : Int} (ca : CtrAt H CC x C1 R1 ds rs n) (c : Ch f H H') (fe : FeedAt H f) (n1 : x ≠ f) (n2 : C1 ≠ f) (n3 : R1 ≠ f) : CtrAt H' CC x C1 R1 ds rs n := by
  obtain ⟨⟨dx, h1⟩, ⟨xs, h2, h3⟩, h4, h5, h6⟩ := ca
  exact ⟨⟨dx, c _ _ n1 h1⟩, ⟨xs, c _ _ n2 h2, pairs_tup (fun b t e => c b _ (fun z => by
    obtain ⟨d, st, _, _, _, hf⟩ := fe
    rw [z, hf] at e; cases e) e) h3⟩, h4, c _ _ n3 h5, h6⟩
theorem R3.ch (g : R3 H CC f x C1 R1 p D ds rs la dn H1) (c : Ch f H1 H2) (fe : FeedAt H2 f) : R3 H CC f x C1 R1 p D ds rs la dn H2 :=
  ⟨c.old g.hf g.sm, fe, ctr_ch (ca0 := trivial) g.ca c g.fe g.nx g.nC g.nR, g.cn, c _ _ g.np g.hp, c _ _ g.nD g.hD, g.hf, g.hx, g.hC, g.hR, g.nx, g.nC, g.nR, g.np, g.nD, g.pC, g.pR, g.DC, g.DR⟩
theorem R3.ch3 (g : R3 H CC f x C1 R1 p D ds rs la dn H1) (c : Ch3 x C1 R1 H1 H2) {ds2 : List (Int × Int)} {rs2 : List Int} (ca : CtrAt H2 CC x C1 R1 ds2 rs2 (dn.length : Nat)) (cn : Cn dn ds2 rs2) : R3 H CC f x C1 R1 p D ds2 rs2 la dn H2 :=
  ⟨fun b o e => c b o (ne_of_none e g.hx) (ne_of_none e g.hC) (ne_of_none e g.hR) (g.sm b o e), by
    obtain ⟨d, st, h1, h2, h3, h4⟩ := g.fe
    exact ⟨d, st, h1, h2, h3, c _ _ g.nx.symm g.nC.symm g.nR.symm h4⟩, ca, cn, c _ _ g.px g.pC g.pR g.hp, c _ _ g.Dx g.DC g.DR g.hD, g.hf, g.hx, g.hC, g.hR, g.nx, g.nC, g.nR, g.np, g.nD, g.pC, g.pR, g.DC, g.DR⟩
/-- the same counter over another list of what is done -/
theorem R3.done (g : R3 H CC f x C1 R1 p D ds rs la dn H1) (c : Ch3 x C1 R1 H1 H2) {D2 : Addr} {ds2 : List (Int × Int)} {rs2 dn2 : List Int} (ca : CtrAt H2 CC x C1 R1 ds2 rs2 (dn2.length : Nat)) (cn : Cn dn2 ds2 rs2) (hD : H2 D2 = some (.lst (dn2.map V.int))) (nD : D2 ≠ f) (DC : D2 ≠ C1) (DR : D2 ≠ R1) : R3 H CC f x C1 R1 p D2 ds2 rs2 la dn2 H2 :=
  ⟨fun b o e => c b o (ne_of_none e g.hx) (ne_of_none e g.hC) (ne_of_none e g.hR) (g.sm b o e), by
    obtain ⟨d, st, h1, h2, h3, h4⟩ := g.fe
    exact ⟨d, st, h1, h2, h3, c _ _ g.nx.symm g.nC.symm g.nR.symm h4⟩, ca, cn, c _ _ g.px g.pC g.pR g.hp, hD, g.hf, g.hx, g.hC, g.hR, g.nx, g.nC, g.nR, g.np, nD, g.pC, g.pR, DC, DR⟩
end
theorem cnt_ch3 {H H' : Hp} {C CC x C1 R1 y : Addr} {ds es : List (Int × Int)} {rs ts : List Int} {n : Int} (cy : CountAt H C y es ts) (ca : CtrAt H CC x C1 R1 ds rs n) (c : Ch3 x C1 R1 H H') (ny : y ≠ x) : CountAt H' C y es ts := by
  have k := ch3_tup ca c
  obtain ⟨dy, t1, t2, ys, h1, h2, h3, h4⟩ := cy
  refine ⟨dy, t1, t2, ys, c _ _ ny (fun z => ?_) (fun z => ?_) h1, k _ _ h2, pairs_tup k h3, k _ _ h4⟩
  · obtain ⟨xs, h, _⟩ := ca.cy
    rw [z, h] at h1; cases h1
  · have h := ca.r
    rw [z, h] at h1; cases h1
def dCn (ds : List (Int × Int)) (rs : List Int) : PyData := .tuple [.tuple (dPairs ds), .tuple (dInts rs)]
theorem dp_cn {K : PySem.W.Frag} {H : Hp} {u t1 t2 : Addr} {ys : List V} {ds : List (Int × Int)} {rs : List Int} (hu : H u = some (.tup [.ref t1, .ref t2])) (h1 : H t1 = some (.tup ys)) (pa : PairsAt H ys ds) (h2 : H t2 = some (.tup (rs.map V.int))) : Dp K H (.ref u) (dCn ds rs) :=
  .tup (SqT.of hu) (.cons (.tup (SqT.of h1) (dp_pairs pa)) (.cons (.tup (SqT.of h2) (dp_ints rs)) .nil))
theorem nice_cn {ds : List (Int × Int)} {rs : List Int} (h1 : ∀ r ∈ ds, r.1.natAbs < 2 ^ 39 ∧ r.2.natAbs < 2 ^ 39) (h2 : ∀ r ∈ rs, r.natAbs < 2 ^ 39) (l1 : ds.length ≤ 500) (l2 : rs.length ≤ 500) : Nice (dCn ds rs) := by
  have a1 := pairs_show ds h1
  have a2 := KG.show_all rs fun m hm => Nat.lt_trans (h2 m hm) (by decide)
  have b1 := pairs_dict ds
  have b2 := KG.nodict_all rs
  have c1 := depth_pairs ds
  have c2 := KG.depth_all rs
  have d1 := pairs_leaves ds h1
  have d2 := KG.leaves_all rs fun n hn => Nat.lt_trans (h2 n hn) (by decide)
  have e1 := pairs_weight ds h1
  have e2 := KG.weight_all rs h2
  refine ⟨?_, ?_, ?_, ?_⟩
  · unfold dCn dInts
    simp only [PyData.showable, PyData.showableAll, a1, a2, Bool.and_self]
  · unfold dCn dInts
    simp only [PyData.hasDict, PyData.hasDictAll, b1, b2, Bool.or_self]
  · unfold dCn dInts
    simp only [PyData.depth, PyData.depthAll]
    omega
  · refine PyData.shown_fits (B := 13) (by decide) (by decide) ?_ ?_
    · unfold dCn dInts
      simp only [PyData.leavesShort, PyData.leavesShortAll, d1, d2, Bool.and_self]
    · unfold dCn dInts
      simp only [PyData.weight, PyData.weightAll]
      omega
theorem log_small {n : Nat} (h : n ≤ 3000) : ((n : Nat) : Int).natAbs.log2 < 1920 := by
  have h2 : ((n : Nat) : Int).natAbs < 2 ^ 13 := by rw [Int.natAbs_natCast]; omega
  exact Nat.lt_trans (KG.small_log (by decide) h2) (by decide)
theorem log_int {i : Int} (h : i.natAbs ≤ 3000) : i.natAbs.log2 < 1920 := by
  have h2 : i.natAbs < 2 ^ 13 := by omega
  exact Nat.lt_trans (KG.small_log (by decide) h2) (by decide)
theorem rg_mem {a b x y : Int} (h1 : x = a ∨ x = b) (h2 : y = a ∨ y = b) (ha : a.natAbs < 2 ^ 39) (hb : b.natAbs < 2 ^ 39) : x.natAbs < 2 ^ 39 ∧ y.natAbs < 2 ^ 39 := by
  rcases h1 with rfl | rfl <;> rcases h2 with rfl | rfl <;> exact ⟨‹_›, ‹_›⟩
theorem sw_mem : ∀ (rs : List Int), (∀ r ∈ rs, r.natAbs < 2 ^ 39) → ∀ s ∈ sw rs, s.1.natAbs < 2 ^ 39 ∧ s.2.natAbs < 2 ^ 39
  | [], _, s, h => (List.not_mem_nil h).elim
  | [_], _, s, h => (List.not_mem_nil h).elim
  | a :: b :: r, hb, s, h => by
    rcases List.mem_cons.mp (show s ∈ rg a b :: sw (b :: r) from h) with z | z
    · subst z
      have ha := hb a (by simp)
      have hb2 := hb b (by simp)
      unfold rg; exact ⟨by dsimp only; split <;> assumption, by dsimp only; split <;> assumption⟩
    · exact sw_mem (b :: r) (fun x hx => hb x (List.mem_cons_of_mem _ hx)) s z
section
variable {P : Program} {w : World} {K : PySem.W.Frag} {mg : Str → Option Value} {base : Heap} {fCO fRG fTP fIL fBT fSW fCH fMT fPB fCN fCR fPR fPN fPT fFE fTA fPI fLO fLP fLR fLH fPL fCT fAD fCL fSE C fIN pO fOF pC fPC pR fPR_ p3 fPH fPG fEQ fST CC fKI pKC fKC pKT fKT fKA fKP fKK : Addr} {dCO dRG dTP dIL dBT dSW dCH dMT dPB dCN dCR dPR dPN dPT dFE dTA dPI dLO dLP dLR dLH dPL dCT dAD dCL dSE dIN dOF dPC dPR_ dPH dPG dEQ dST dKI dKC dKT dKA dKP dKK : FuncData}
def spLaw (K : PySem.W.Frag) : Sp := fun vs H Q _ => ∃ (a : Addr) (ns : List Int), vs = [.ref a] ∧ SqL K H a (ns.map V.int) ∧ ns.length ≤ 63 ∧ ∀ H', Q (.bl true) H'
theorem len_law {K : PySem.W.Frag} : ∀ vs H Q E, (spLaw K) vs H Q E → vs.length = (["script"] : List Str).length := fun vs H Q E h => by
  obtain ⟨a, ns, rfl, _⟩ := h
  rfl
theorem ok_law {f0 : Addr} {fd : FuncData} (F : Fun K "law" "law" E3T.sLaw f0 fd) (T : Txt K mg fCO fRG fTP fIL fBT fSW fCH fMT fPB fCN fCR fPR fPN fPT fFE fTA fPI fLO fLP fLR fLH fPL fCT fAD fCL fSE C fIN pO fOF pC fPC pR fPR_ p3 fPH fPG fEQ fST CC fKI pKC fKC pKT fKT fKA fKP fKK dCO dRG dTP dIL dBT dSW dCH dMT dPB dCN dCR dPR dPN dPT dFE dTA dPI dLO dLP dLR dLH dPL dCT dAD dCL dSE dIN dOF dPC dPR_ dPH dPG dEQ dST dKI dKC dKT dKA dKP dKK) : KW.Kept P w K mg base 9 f0 fd ["script"] (spLaw K) := by
  have GCO : FnOk P w K mg base CX0 1 fCO dCO ["outer", "inner"] (spCont K) := ok_Cont T.FCO
  have GRG : FnOk P w K mg base CX0 1 fRG dRG ["one", "other"] spRng := ok_Rng T.FRG T.min T.max
  have GIL : FnOk P w K mg base CX0 2 fIL dIL ["points", "reading"] (spLO K) := ok_LO T.FIL T.FBT T.gBT T.bBT T.len
  have GTP : FnOk P w K mg base CX0 3 fTP dTP ["load"] (spTP K) := both (ok_TPl T.FTP GIL T.gIL T.kIL T.bIL T.tuple) (ok_TPt T.FTP GIL T.gIL T.kIL T.bIL T.tuple)
  have GSW : FnOk P w K mg base CX0 4 fSW dSW ["load"] (spSw K) := ok_sw T.FSW GTP T.gTP T.kTP T.bTP (GRG.mono (by decide)) T.gRG T.kRG T.bRG T.zip
  have GMT : FnOk P w K mg base CX0 2 fMT dMT ["points", "place"] (spMT K) := ok_MT T.FMT T.abs
  have GPB : FnOk P w K mg base CX0 3 fPB dPB ["rest", "reading"] spPB := ok_PB T.FPB GIL T.gIL T.kIL T.bIL GMT T.gMT T.kMT T.bMT (GRG.mono (by decide)) T.gRG T.kRG T.bRG T.len
  have GCN : FnOk P w K mg base CX0 4 fCN dCN ["load"] (spCo K) := ok_Co T.FCN GPB T.gPB T.kPB T.bPB
  have GIN : FnOk P w K mg base CX0 1 fIN dIN ["self", "cycles", "rest"] (spInit K C) := ok_init T.FIN T.cn T.sorted T.tuple
  have GOF : FnOk P w K mg base CX0 5 fOF dOF ["cls", "load"] (spOf K C) := ok_of T.FOF T.mkc (GIN.mono (by decide)) T.bIN GCN T.gCN T.kCN T.bCN
  have GPC : FnOk P w K mg base CX0 1 fPC dPC ["self"] (spPC C) := ok_PC T.FPC T.cn
  have GPR : FnOk P w K mg base CX0 1 fPR_ dPR_ ["self"] (spPR C) := ok_PR T.FPR_ T.cn
  have GPH : FnOk P w K mg base CX0 5 fPH dPH ["self"] (spPH C) := ok_PH T.FPH T.cn GSW T.gSW T.kSW T.bSW T.sorted T.tuple
  have GPG : FnOk P w K mg base CX0 7 fPG dPG ["self", "low", "high"] (spPG C) := ok_PG T.FPG T.cn T.prH GPH T.bPH (GCO.mono (by decide)) T.gCO T.kCO T.bCO T.len
  have GEQ : FnOk P w K mg base CX0 1 fEQ dEQ ["self", "other"] (spEQ C) := ok_EQ T.FEQ T.cn T.ins T.gC T.isinstance
  have GTA : FnOk P w K mg base CX0 1 fTA dTA ["feed", "many"] spTake := ok_take T.FTA
  have GFE : FnOk P w K mg base CX0 1 fFE dFE ["script", "k"] (spFeed K) := ok_feed T.FFE T.len T.max T.abs
  have GLO : FnOk P w K mg base CX0 3 fLO dLO ["feed", "most"] spLoad := ok_load T.FLO T.FTA T.gTA T.bTA T.FPI T.gPI T.bPI T.len T.range T.min
  have GLP : FnOk P w K mg base CX0 1 fLP dLP ["load"] (spLP K) := ok_LP T.FLP T.len T.range T.int
  have GLR : FnOk P w K mg base CX0 1 fLR dLR ["one", "other"] spRng := ok_LR T.FLR T.min T.max
  have GLH : FnOk P w K mg base CX0 1 fLH dLH ["outer", "inner"] (spCont K) := ok_LH T.FLH
  have GPL : FnOk P w K mg base CX0 2 fPL dPL ["points"] (spPl K) := ok_pl T.FPL GLR T.gLR T.kLR T.bLR GLH T.gLH T.kLH T.bLH T.len T.range
  have GCT : FnOk P w K mg base CX0 3 fCT dCT ["feed", "load"] (UCT.spCt K) := UCT.ok_ct T.FCT (GLP.mono (by decide)) T.gLP T.kLP T.bLP GPL T.gPL T.kPL T.bPL (GLR.mono (by decide)) T.gLR T.kLR T.bLR T.sorted
  have GCR : FnOk P w K mg base CX0 1 fCR dCR ["cycles"] (spCR K) := ok_CR T.FCR T.gN
  have GPW2 : FnOk P w K mg base CX0 1 fPR dPR ["points"] (spPRw K) := ok_PRw T.FPR T.gN T.str
  have GST : FnOk P w K mg base CX0 2 fST dST ["self"] (spST C) := ok_ST T.FST T.cn GCR T.gCR T.kCR T.bCR GPW2 T.gPR T.kPR T.bPR
  have GCH : FnOk P w K mg base CX0 1 fCH dCH ["load", "low", "high"] (spCh K) := ok_ch T.FCH T.len T.zip
  have GPI : FnOk P w K mg base CX0 2 fPI dPI ["feed", "some"] (spPick K) := ok_pick T.FPI T.FTA T.gTA T.bTA T.len
  have GPN : FnOk P w K mg base CX0 1 fPN dPN ["row", "value"] spPI := BO.ok_PI T.FPN T.len
  have GPT : FnOk P w K mg base CX0 2 fPT dPT ["row", "value"] spPT := ok_PT T.FPT GPN T.gPN T.kPN T.bPN
  have GKI : FnOk P w K mg base CX0 1 fKI dKI ["self"] (spKI CC) := ok_KI T.FKI T.ctr
  have GKC : FnOk P w K mg base CX0 3 fKC dKC ["self"] (spKC CC C) := ok_KC T.FKC T.ctr T.mkc T.gC GIN T.bIN
  have GKT : FnOk P w K mg base CX0 1 fKT dKT ["self"] (spKT CC) := ok_KT T.FKT T.ctr
  have GKK : FnOk P w K mg base CX0 3 fKK dKK ["self", "cycles"] (spKK K CC) := ok_KK T.FKK T.ctr GPT T.gPT T.kPT T.bPT
  have GKP : FnOk P w K mg base CX0 4 fKP dKP ["self", "reading"] (spKP CC) := ok_KP T.FKP T.ctr GPB T.gPB T.kPB T.bPB T.tuple T.sorted T.list
  have GKA4 : FnR P w K mg base CX0 4 fKA (spKA CC) := ok_KA T.FKA T.ctr GPB T.gPB T.kPB T.bPB T.mK GKK T.bKK T.len
  have GKA : FnR P w K mg base CX0 8 fKA (spKA CC) := fun A outer s H us vs Q E hr => GKA4 A outer s H us vs Q E (hr.mono (by decide))
  have GAD : FnOk P w K mg base CX0 5 fAD dAD ["counter", "some"] (E3S.spAD CC) := E3S.ok_ad T.FAD T
  have GCL : FnOk P w K mg base CX0 5 fCL dCL ["feed", "done", "reading"] E3S.spCL := E3S.ok_cl T.FCL T
  have GSE : FnOk P w K mg base CX0 6 fSE dSE ["feed"] E3V.spSE := E3V.ok_se T.FSE T
  have GCO := GCO.mono (show 1 ≤ 8 by decide)
  have GRG := GRG.mono (show 1 ≤ 8 by decide)
  have GIL := GIL.mono (show 2 ≤ 8 by decide)
  have GTP := GTP.mono (show 3 ≤ 8 by decide)
  have GSW := GSW.mono (show 4 ≤ 8 by decide)
  have GMT := GMT.mono (show 2 ≤ 8 by decide)
  have GPB := GPB.mono (show 3 ≤ 8 by decide)
  have GCN := GCN.mono (show 4 ≤ 8 by decide)
  have GIN := GIN.mono (show 1 ≤ 8 by decide)
  have GOF := GOF.mono (show 5 ≤ 8 by decide)
  have GPC := GPC.mono (show 1 ≤ 7 by decide)
  have GPR := GPR.mono (show 1 ≤ 7 by decide)
  have GPH := GPH.mono (show 5 ≤ 7 by decide)
  have GPG := GPG.mono (show 7 ≤ 8 by decide)
  have GEQ := GEQ.mono (show 1 ≤ 7 by decide)
  have GTA := GTA.mono (show 1 ≤ 8 by decide)
  have GFE := GFE.mono (show 1 ≤ 8 by decide)
  have GLO := GLO.mono (show 3 ≤ 8 by decide)
  have GLP := GLP.mono (show 1 ≤ 8 by decide)
  have GLR := GLR.mono (show 1 ≤ 8 by decide)
  have GLH := GLH.mono (show 1 ≤ 8 by decide)
  have GPL := GPL.mono (show 2 ≤ 8 by decide)
  have GCT := GCT.mono (show 3 ≤ 8 by decide)
  have GCR := GCR.mono (show 1 ≤ 8 by decide)
  have GPW2 := GPW2.mono (show 1 ≤ 8 by decide)
  have GST := GST.mono (show 2 ≤ 6 by decide)
  have GCH := GCH.mono (show 1 ≤ 8 by decide)
  have GPI := GPI.mono (show 2 ≤ 8 by decide)
  have GPN := GPN.mono (show 1 ≤ 8 by decide)
  have GPT := GPT.mono (show 2 ≤ 8 by decide)
  have GKI := GKI.mono (show 1 ≤ 7 by decide)
  have GKC := GKC.mono (show 3 ≤ 7 by decide)
  have GKT := GKT.mono (show 1 ≤ 7 by decide)
  have GKK := GKK.mono (show 3 ≤ 8 by decide)
  have GKP := GKP.mono (show 4 ≤ 8 by decide)
  have GAD := GAD.mono (show 5 ≤ 8 by decide)
  have GCL := GCL.mono (show 5 ≤ 8 by decide)
  have GSE := GSE.mono (show 6 ≤ 8 by decide)
  refine KW.kept_of F E3T.scLaw len_law (fun cdv A outer s H vs Q E hgA hr h => ?_)
  · obtain ⟨a, ns, rfl, hS, hlen, q⟩ := h
    have hg : (A.deeper (envOfC "law" (defScope E3T.sLaw) s.heap.objs.size f0 cdv)).guards = some [] := hgA
    have hu : (A.deeper (envOfC "law" (defScope E3T.sLaw) s.heap.objs.size f0 cdv)).units + 100 < cLine := by have := hr.un; omega
    refine ⟨_, (pss_cons (ps_for PassesOwn.never rfl (pi_range1 rfl T.range (pa_cons (pe_callB (call_max2 rfl) (by rfl) T.max (by decide +kernel) (pa_cons pe_int (pa_cons (pe_callB (call_min2 rfl) (by rfl) T.min (by decide +kernel) (pa_cons pe_int (pa_cons (pe_callB call_len_seq (by rfl) T.len PySem.boot_len (pa_cons (pv 0) pa_nil)) pa_nil))) pa_nil))) pa_nil)) (pg_name (i := 1) E3T.scLaw.nd rfl (.inl rfl))
      (pss_cons (ps_set (i := 2) E3T.scLaw.nd rfl (.inl rfl) (pe_call GFE hr (by rfl) T.gFE T.kFE T.bFE .nil pass0 (pa_cons (pv 0) (pa_cons (pv 1) pa_nil))))
      (pss_cons (ps_if (pt_not (pt_val (pe_call GSE hr (by rfl) T.gSE T.kSE T.bSE .nil pass0 (pa_cons (pv 2) pa_nil)))) (pss_one (ps_ret pe_bl)) pss_nil)
      (pss_one (ps_for PassesOwn.never rfl (pi_range1 rfl T.range (pa_cons pe_int pa_nil)) (pg_name (i := 3) E3T.scLaw.nd rfl (.inl rfl))
      (pss_cons (ps_par3 (i := 4) (j := 5) (l := 6) (by rfl) E3T.scLaw.nd rfl rfl rfl (by decide) (by decide) (by decide) rfl rfl rfl (pa_cons (pe_call GLO hr (by rfl) T.gLO T.kLO T.bLO .nil pass0 (pa_cons (pv 2) (pa_cons pe_int pa_nil))) (pa_cons (pe_make0 T.mkk GKI hr (by rfl) T.gK T.bKI .nil pass0) (pa_cons (pe_lst pa_nil) pa_nil))) (by rfl))
      (pss_cons (ps_if (PW.pt (pw_or (pt_cmpR op_ne (pe_prop (pv 5) T.ctr.cl T.prT GKT hr T.bKT .nil pass0 (by rfl)) pe_int (nomark _)) (pw_or1 (pt_cmpR (GN.op_neOwn GEQ hr T.fnEQ T.iEQ T.mO T.neC T.bEQ pass0) (pe_prop (pv 5) T.ctr.cl T.prK GKC hr T.bKC .nil pass0 (by rfl)) (ClX.pe_cmeth (pe_glob (v := .ref C) (by rfl) T.gC rfl) T.rd T.cm (GOF.raw T.bOF .nil) hr pass0 (pa_cons (pe_lst pa_nil) pa_nil)) (nomark _))))) (pss_one (ps_ret pe_bl)) pss_nil)
      (pss_cons (ps_while PassesOwn.never (pt_cmpR op_lt (pe_callB call_len_seq (by rfl) T.len PySem.boot_len (pa_cons (pv 6) pa_nil)) (pe_callB call_len_seq (by rfl) T.len PySem.boot_len (pa_cons (pv 4) pa_nil)) (nomark _)) (pss_cons (ps_set (i := 7) E3T.scLaw.nd rfl (.inl rfl) (pe_slice sl_list (pv 4) (po_some (pe_callB call_len_seq (by rfl) T.len PySem.boot_len (pa_cons (pv 6) pa_nil))) (po_some (pe_op op_add (pe_op op_add (pe_callB call_len_seq (by rfl) T.len PySem.boot_len (pa_cons (pv 6) pa_nil)) pe_int) (pe_call GTA hr (by rfl) T.gTA T.kTA T.bTA .nil pass0 (pa_cons (pv 2) (pa_cons pe_int pa_nil)))))))
      (pss_cons (ps_if (pt_cmpR op_ne (MR.pe_methR0 (pv 5) T.ctr.cl T.mA GKA hr pass0) pe_int (nomark _)) (pss_one (ps_ret pe_bl)) pss_nil)
      (pss_cons (ps_set (i := 8) E3T.scLaw.nd rfl (.inl rfl) (pe_prop (pv 5) T.ctr.cl T.prK GKC hr T.bKC .nil pass0 (by rfl)))
      (pss_cons (ps_set (i := 9) E3T.scLaw.nd rfl (.inl rfl) (pe_callB (cr_reprD hg hu) (by rfl) T.repr (by decide +kernel) (pa_cons (pe_tup (pa_cons (pe_callTy (GS.cr_strOwn GST hr T.fnST T.iST T.bST pass0) (by rfl) T.str (by decide +kernel) (pa_cons (pv 8) pa_nil)) (pa_cons (pe_prop (pv 8) T.cn.cl T.prH GPH hr T.bPH .nil pass0 (by rfl)) (pa_cons (pe_meth (pv 8) T.cn.cl T.mPG GPG hr T.bPG .nil pass0 (pa_cons pe_int (pa_cons pe_int pa_nil))) pa_nil)))) pa_nil)))
      (pss_cons (ps_for PassesOwn.never rfl (pi_list (pe_lst (pa_cons (pe_ix ix_list (pv 7) pe_int (fun _ _ => rfl)) (pa_cons pe_int (pa_cons (pe_op op_pow pe_int pe_int) pa_nil))))) (pg_name (i := 10) E3T.scLaw.nd rfl (.inl rfl))
      (pss_one (ps_if (pt_cmpR (op_neD hr.units) (pe_meth (pv 5) T.ctr.cl T.mP GKP hr T.bKP .nil pass0 (pa_cons (pv 10) pa_nil)) (pe_callTy call_tuple_of (by rfl) T.tuple (by decide +kernel) (pa_cons (pe_call GCL hr (by rfl) T.gCL T.kCL T.bCL .nil pass0 (pa_cons (pv 2) (pa_cons (pv 6) (pa_cons (pv 10) pa_nil)))) pa_nil)) (nomark _)) (pss_one (ps_ret pe_bl)) pss_nil)))
      (pss_cons (ps_set (i := 11) E3T.scLaw.nd rfl (.inl rfl) (pe_call GAD hr (by rfl) T.gAD T.kAD T.bAD .nil pass0 (pa_cons (pv 5) (pa_cons (pv 7) pa_nil))))
      (pss_cons (ps_set (i := 6) E3T.scLaw.nd rfl (.inl rfl) (pe_op op_cat (pv 6) (pv 7)))
      (pss_cons (ps_asg (pe_call GCT hr (by rfl) T.gCT T.kCT T.bCT .nil pass0 (pa_cons (pv 2) (pa_cons (pv 6) pa_nil))) (pg_tup rfl (pgs_cons (pg_name (i := 12) E3T.scLaw.nd rfl (.inl rfl)) (pgs_cons (pg_name (i := 13) E3T.scLaw.nd rfl (.inl rfl)) pgs_nil))))
      (pss_cons (ps_set (i := 14) E3T.scLaw.nd rfl (.inl rfl) (pe_prop (pv 5) T.ctr.cl T.prK GKC hr T.bKC .nil pass0 (by rfl)))
      (pss_cons (ps_if (pt_cmpR op_ne (pe_callB (cr_reprD hg hu) (by rfl) T.repr (by decide +kernel) (pa_cons (pe_tup (pa_cons (pe_prop (pv 14) T.cn.cl T.prC GPC hr T.bPC .nil pass0 (by rfl)) (pa_cons (pe_prop (pv 14) T.cn.cl T.prR GPR hr T.bPR_ .nil pass0 (by rfl)) pa_nil))) pa_nil)) (pe_callB (cr_reprD hg hu) (by rfl) T.repr (by decide +kernel) (pa_cons (pe_tup (pa_cons (pe_callTy call_tuple_of (by rfl) T.tuple (by decide +kernel) (pa_cons (pv 12) pa_nil)) (pa_cons (pe_callTy call_tuple_of (by rfl) T.tuple (by decide +kernel) (pa_cons (pv 13) pa_nil)) pa_nil))) pa_nil)) (nomark _)) (pss_one (ps_ret pe_bl)) pss_nil)
      (pss_cons (ps_if (pt_cmpR op_ne (pe_prop (pv 5) T.ctr.cl T.prT GKT hr T.bKT .nil pass0 (by rfl)) (pe_callB call_len_seq (by rfl) T.len PySem.boot_len (pa_cons (pv 6) pa_nil)) (nomark _)) (pss_one (ps_ret pe_bl)) pss_nil)
      (pss_cons (ps_if (pt_cmpR op_ne (pe_callB SkE.call_repr_int (by rfl) T.repr (by decide +kernel) (pa_cons (pv 11) pa_nil)) (pe_callB SkE.call_repr_int (by rfl) T.repr (by decide +kernel) (pa_cons (pe_op op_sub (pe_callB call_len_seq (by rfl) T.len PySem.boot_len (pa_cons (pv 12) pa_nil)) (pe_callB call_len_seq (by rfl) T.len PySem.boot_len (pa_cons (pe_prop (pv 8) T.cn.cl T.prC GPC hr T.bPC .nil pass0 (by rfl)) pa_nil))) pa_nil)) (nomark _)) (pss_one (ps_ret pe_bl)) pss_nil)
      (pss_cons (ps_if (pt_cmpR op_ne (pe_callB (cr_reprD hg hu) (by rfl) T.repr (by decide +kernel) (pa_cons (pe_tup (pa_cons (pe_callTy (GS.cr_strOwn GST hr T.fnST T.iST T.bST pass0) (by rfl) T.str (by decide +kernel) (pa_cons (pv 8) pa_nil)) (pa_cons (pe_prop (pv 8) T.cn.cl T.prH GPH hr T.bPH .nil pass0 (by rfl)) (pa_cons (pe_meth (pv 8) T.cn.cl T.mPG GPG hr T.bPG .nil pass0 (pa_cons pe_int (pa_cons pe_int pa_nil))) pa_nil)))) pa_nil)) (pv 9) (nomark _)) (pss_one (ps_ret pe_bl)) pss_nil)
      (pss_one (ps_if (PW.pt (pw_or (pt_cmpR op_ne (pe_meth (pv 14) T.cn.cl T.mPG GPG hr T.bPG .nil pass0 (pa_cons pe_int (pa_cons pe_int pa_nil))) (pe_call GCH hr (by rfl) T.gCH T.kCH T.bCH .nil pass0 (pa_cons (pv 6) (pa_cons pe_int (pa_cons pe_int pa_nil)))) (nomark _)) (pw_or1 (pt_cmpR op_ne (pe_meth (pv 14) T.cn.cl T.mPG GPG hr T.bPG .nil pass0 (pa_cons pe_int (pa_cons pe_int pa_nil))) (pe_call GCH hr (by rfl) T.gCH T.kCH T.bCH .nil pass0 (pa_cons (pv 6) (pa_cons pe_int (pa_cons pe_int pa_nil)))) (nomark _))))) (pss_one (ps_ret pe_bl)) pss_nil))))))))))))))))
      (pss_one (ps_if (PW.pt (pw_or (pt_cmpR (GN.op_neOwn GEQ hr T.fnEQ T.iEQ T.mO T.neC T.bEQ pass0) (pe_prop (pv 5) T.ctr.cl T.prK GKC hr T.bKC .nil pass0 (by rfl)) (ClX.pe_cmeth (pe_glob (v := .ref C) (by rfl) T.gC rfl) T.rd T.cm (GOF.raw T.bOF .nil) hr pass0 (pa_cons (pv 4) pa_nil)) (nomark _)) (pw_or1 (pt_cmpR (op_neD hr.units) (pe_prop (pe_prop (pv 5) T.ctr.cl T.prK GKC hr T.bKC .nil pass0 (by rfl)) T.cn.cl T.prH GPH hr T.bPH .nil pass0 (by rfl)) (pe_prop (ClX.pe_cmeth (pe_glob (v := .ref C) (by rfl) T.gC rfl) T.rd T.cm (GOF.raw T.bOF .nil) hr pass0 (pa_cons (pv 4) pa_nil)) T.cn.cl T.prH GPH hr T.bPH .nil pass0 (by rfl)) (nomark _))))) (pss_one (ps_ret pe_bl)) pss_nil))))))))))
      (pss_one (ps_ret pe_bl))), ?_⟩
    have l2s : 2 ≤ sizeLine := by decide
    have l3s : 3 ≤ sizeLine := by decide
    -- for k
    refine ⟨.ref a, rfl, a, ns.map V.int, rfl, .inl hS, 3, ((ns.map V.int).length : Int), rfl, 2, _, rfl, _, rfl, ?_⟩
    generalize hm : (if (if ((ns.map V.int).length : Int) < 3 then ((ns.map V.int).length : Int) else 3) > 2 then (if ((ns.map V.int).length : Int) < 3 then ((ns.map V.int).length : Int) else 3) else 2) = m
    have m0 : 0 ≤ m ∧ m ≤ 3 := by subst hm; split <;> split <;> omega
    refine ⟨by omega, by omega, for_range (lo := 0) (n := m.toNat) (fun i σ H' => Same H H' ∧ ∃ r1 r2 r3 r4 r5 r6 r7 r8 r9 r10 r11 r12 r13 r14 : Option V, σ = [some (.ref a), r1, r2, r3, r4, r5, r6, r7, r8, r9, r10, r11, r12, r13, r14]) ⟨Same.refl H, _, _, _, _, _, _, _, _, _, _, _, _, _, _, rfl⟩ ?_ (fun σ H1 _ => q _)⟩
    rintro i σ H' hi ⟨sm, r1, r2, r3, r4, r5, r6, r7, r8, r9, r10, r11, r12, r13, r14, rfl⟩
    refine ⟨.ref a, rfl, .int (0 + (i : Int)), rfl, a, ns, 0 + (i : Int), rfl, sm.seq hS, by omega, by omega, fun H1 f s1 nf fe => ?_⟩
    have hf0 : H f = none := sm.free nf
    have sm1 := sm.trans s1
    clear sm s1 nf
    -- seven
    refine ⟨.ref f, rfl, f, rfl, fe, fun H2 c2 fe2 => ⟨true, rfl, iteF ?_⟩⟩
    have sm2 := c2.old hf0 sm1
    clear c2 fe sm1
    refine ⟨2, rfl, by decide, by decide, for_range (lo := 0) (n := (2 : Int).toNat) (fun _ σ H' => Same H H' ∧ FeedAt H' f ∧ ∃ r1 r3 r4 r5 r6 r7 r8 r9 r10 r11 r12 r13 r14 : Option V, σ = [some (.ref a), r1, some (.ref f), r3, r4, r5, r6, r7, r8, r9, r10, r11, r12, r13, r14]) ⟨sm2, fe2, _, _, _, _, _, _, _, _, _, _, _, _, _, rfl⟩ ?_ ?_⟩
    case refine_2 =>
      rintro σ H2 ⟨s2, _, r1, r3, r4, r5, r6, r7, r8, r9, r10, r11, r12, r13, r14, rfl⟩
      exact ⟨s2, _, _, _, _, _, _, _, _, _, _, _, _, _, _, rfl⟩
    clear sm2 fe2
    rintro t σ H3 _ ⟨sm, fe, r1, r3, r4, r5, r6, r7, r8, r9, r10, r11, r12, r13, r14, rfl⟩
    refine ⟨.ref f, rfl, f, 24, rfl, by decide, by decide, fe, fun H4 p la c4 fe4 np hp hl hb => ?_⟩
    intro x dx nx ndx nn
    have s0 : Same H4 (upd (upd H4 dx (.own x)) x (.ins CC dx [])) := (same_new ndx).trans (same_new (by rw [upd_ne nn.symm]; exact nx))
    refine ⟨x, dx, rfl, upd_same, fun H5 C1 R1 keep ca nC nR => ⟨rfl, Nat.zero_le _, fun D nD => ⟨.ref p, .ref x, .ref D, rfl, ?_⟩⟩⟩
    have sm4 : Same H H4 := c4.old hf0 sm
    have s5 : Same H4 H5 := fun b o e => keep b o (ne_of_none e nx) (s0 _ _ e)
    have sD := same_new (o := .lst []) nD
    have nC4 := s0.free nC
    have nR4 := s0.free nR
    have hp5 := s5 _ _ hp
    have pC : p ≠ C1 := fun z => by rw [z, nC4] at hp; cases hp
    have pR : p ≠ R1 := fun z => by rw [z, nR4] at hp; cases hp
    have DC : D ≠ C1 := fun z => by
      obtain ⟨xs, h, _⟩ := ca.cy
      rw [z, h] at nD; cases nD
    have DR : D ≠ R1 := fun z => by rw [z, ca.r] at nD; cases nD
    have g : R3 H CC f x C1 R1 p D [] [] la [] (upd H5 D (.lst [])) := ⟨sm4.trans (s5.trans sD), fe4.same (s5.trans sD), ca.same sD, cn_nil, (s5.trans sD) _ _ hp, upd_same, hf0, sm4.free nx, sm4.free nC4, sm4.free nR4, fe4.ne nx, fe4.ne nC4, fe4.ne nR4, fe.ne np, (fe4.same s5).ne nD, pC, pR, DC, DR⟩
    clear DR DC pC pR hp5 nR4 nC4 sD s5 sm4 keep ca nC nR s0 nx ndx nn c4 fe4 np hp
    generalize upd H5 D (.lst []) = H6 at g ⊢
    clear nD H5 H4 sm fe
    have hl24 : la.length ≤ 24 := by omega
    have hb39 : ∀ n ∈ la, n.natAbs < 2 ^ 39 := fun n hn => Nat.lt_trans (hb n hn) (by decide)
    clear hb hl
    obtain ⟨dx1, hx1⟩ := g.ca.ins
    refine ⟨.ref x, rfl, x, dx1, _, rfl, hx1, x, C1, R1, _, _, _, rfl, g.ca, rfl, _, rfl, iteNS rfl ?_⟩
    refine ⟨.ref x, rfl, x, dx1, _, rfl, hx1, x, C1, R1, _, _, _, rfl, g.ca, fun H7 y s7 ny cy => ?_⟩
    refine ⟨rfl, Nat.zero_le _, fun l nl => ⟨l, [], rfl, .inl (SqL.of upd_same), by decide, fun H8 z cs3 ds3 rs3 s8 nz cz run3 nf3 perm3 srt3 => ?_⟩⟩
    obtain ⟨ed, er⟩ := cn_one rfl (⟨⟨cs3, run3, perm3⟩, nf3, srt3⟩ : Cn [] ds3 rs3) cn_nil
    subst ed er
    have w8 := (same_new (o := .lst []) nl).trans s8
    have cy2 := cy.same w8
    obtain ⟨dy, k1, k2, hy⟩ := sat2 cy2
    obtain ⟨dz, k3, k4, hz⟩ := sat2 cz
    refine ⟨y, z, dy, dz, _, _, rfl, rfl, hy, hz, y, z, _, _, _, _, rfl, cy2, cz, _, rfl, _, rfl, ?_⟩
    rw [show (decide (([] : List (Int × Int)) = []) && decide (([] : List Int) = [])) = true by simp]
    refine iteF ?_
    have g8 := g.same (s7.trans w8)
    clear hz hy cy2 w8 run3 nf3 perm3 srt3 cz nz s8 nl cy ny s7 hx1 g
    clear dz k3 k4 dy k1 k2 cs3 l dx1 y z H7 H6
    -- while
    refine ⟨fun n σ Hx => ∃ (D : Addr) (ds : List (Int × Int)) (rs : List Int) (k : Nat), n = la.length - k ∧ k ≤ la.length ∧ R3 H CC f x C1 R1 p D ds rs la (la.take k) Hx ∧ ∃ r1 r3 r7 r8 r9 r10 r11 r12 r13 r14 : Option V, σ = [some (.ref a), r1, some (.ref f), r3, some (.ref p), some (.ref x), some (.ref D), r7, r8, r9, r10, r11, r12, r13, r14], ⟨_, D, [], [], 0, rfl, Nat.zero_le _, g8, _, _, _, _, _, _, _, _, _, _, rfl⟩, ?_⟩
    clear g8 H8 D
    rintro n σ Hx ⟨D, ds, rs, k, rfl, hk, g, r1, r3, r7, r8, r9, r10, r11, r12, r13, r14, rfl⟩
    have lk : (la.take k).length = k := by rw [List.length_take]; omega
    have lm : (((la.take k).map V.int).length : Int) = (k : Nat) := by rw [List.length_map, lk]
    refine ⟨.ref D, rfl, D, _, rfl, .inl (SqL.of g.hD), .ref p, rfl, p, _, rfl, .inl (SqL.of g.hp), _, _, rfl, rfl, _, rfl, ?_⟩
    by_cases lt : k < la.length
    · rw [decide_eq_true (show (((la.take k).map V.int).length : Int) < ((la.map V.int).length : Int) by rw [lm, List.length_map]; omega)]
      refine iteT ⟨fun σ Hx => ∃ m', m' < la.length - k ∧ ∃ (D : Addr) (ds : List (Int × Int)) (rs : List Int) (k : Nat), m' = la.length - k ∧ k ≤ la.length ∧ R3 H CC f x C1 R1 p D ds rs la (la.take k) Hx ∧ ∃ r1 r3 r7 r8 r9 r10 r11 r12 r13 r14 : Option V, σ = [some (.ref a), r1, some (.ref f), r3, some (.ref p), some (.ref x), some (.ref D), r7, r8, r9, r10, r11, r12, r13, r14], fun _ _ z => z, ?_⟩
      -- some
      refine ⟨.ref p, rfl, .ref D, rfl, D, _, rfl, .inl (SqL.of g.hD), _, rfl, .ref D, rfl, D, _, rfl, .inl (SqL.of g.hD), _, _, rfl, rfl, .ref f, rfl, f, 4, rfl, by decide, by decide, g.fe, fun H1 v c1 fe1 v0 v1 => ?_⟩
      have g1 := g.ch c1 fe1
      refine ⟨_, _, rfl, rfl, _, rfl, p, _, rfl, SqL.of g1.hp, fun S nS => ?_⟩
      obtain ⟨w, rfl⟩ : ∃ w : Nat, v = (w : Nat) := ⟨v.toNat, by omega⟩
      rw [lm, show ((k : Nat) : Int) + 1 + (w : Nat) = ((k + 1 + w : Nat) : Int) by omega, cut_both, List.length_map, show min k la.length = k by omega, ← List.map_drop, ← List.map_take]
      obtain ⟨new, hn⟩ : ∃ new, (la.drop k).take (min (k + 1 + w) la.length - k) = new := ⟨_, rfl⟩
      rw [hn]
      have hnl : new.length = min (k + 1 + w) la.length - k := by rw [← hn, List.length_take, List.length_drop]; omega
      have hnew : la.take k ++ new = la.take (k + new.length) := by
        rw [hnl, ← hn, List.take_add]
      have n4 : new.length ≤ 4 := by omega
      have n1 : 1 ≤ new.length := by omega
      have nk : k + new.length ≤ la.length := by omega
      clear hn hnl v0 v1
      have g2 := g1.same (same_new (o := .lst (new.map V.int)) nS)
      have eS : (upd H1 S (.lst (new.map V.int))) S = some (.lst (new.map V.int)) := upd_same
      have nSf : S ≠ f := g1.fe.ne nS
      have SC : S ≠ C1 := fun z => by
        obtain ⟨xs, h, _⟩ := g1.ca.cy
        rw [z, h] at nS; cases nS
      have SR : S ≠ R1 := fun z => by rw [z, g1.ca.r] at nS; cases nS
      have Sx : S ≠ x := fun z => by
        obtain ⟨dx, h⟩ := g1.ca.ins
        rw [z, h] at nS; cases nS
      generalize upd H1 S (.lst (new.map V.int)) = H2 at g2 eS ⊢
      clear nS g1 c1 fe1 H1 g Hx
      -- add()
      obtain ⟨dx2, hx2⟩ := g2.ca.ins
      refine ⟨.ref x, rfl, x, dx2, _, rfl, hx2, rfl, x, C1, R1, ds, rs, la.take k, [], _, rfl, g2.ca, g2.cn, by show (la.take k).length + 0 ≤ 2000; omega, fun H3 ds3 rs3 c3 ca3 cn3 => ?_⟩
      rw [List.append_nil] at cn3
      rw [show ((((la.take k).length : Nat) : Int) + ((([] : List Int).length : Nat) : Int)) = ((la.take k).length : Nat) from Int.add_zero _] at ca3
      have g3 := g2.ch3 c3 ca3 cn3
      have eS3 := c3 _ _ Sx SC SR eS
      obtain ⟨ed, er⟩ := cn_one rfl cn3 g2.cn
      subst ed er
      refine ⟨rfl, _, rfl, iteNS (congrArg V.int (Int.sub_self _)) ?_⟩
      clear cn3 ca3 c3 hx2 g2 eS
      clear dx2 H2
      have cn := g3.cn
      have zz := cn_zz cn
      have cl := cn_len cn
      have hbk : ∀ n ∈ la.take k, n.natAbs < 2 ^ 39 := fun n hn => hb39 n (List.mem_of_mem_take hn)
      have sml := cn_small cn hbk (by omega)
      -- before
      obtain ⟨dx3, hx3⟩ := g3.ca.ins
      refine ⟨.ref x, rfl, x, dx3, _, rfl, hx3, x, C1, R1, _, _, _, rfl, g3.ca, fun H4 y s4 ny cy => ?_⟩
      have nyx : y ≠ x := fun z => by rw [z, hx3] at ny; cases ny
      have g4 := g3.same s4
      have eS4 := s4 _ _ eS3
      clear s4 ny hx3 eS3 g3
      clear dx3 H3
      -- text
      obtain ⟨dy, k1, k2, hy⟩ := sat2 cy
      refine ⟨.ref y, rfl, y, dy, _, rfl, hy, y, _, _, rfl, cy, sml, fun H5 s5 => ⟨_, rfl, ?_⟩⟩
      refine ⟨.ref y, rfl, y, dy, _, rfl, s5 _ _ hy, y, _, _, rfl, cy.same s5, by omega, by omega, zz, fun H6 t1 ys1 es s6 et pe perme srte => ?_⟩
      have w6 := s5.trans s6
      refine ⟨.ref y, rfl, y, dy, _, rfl, w6 _ _ hy, rfl, y, _, _, 0, 2, rfl, cy.same w6, by omega, by omega, zz, fun H7 s7 => ⟨l3s, fun u nu => ?_⟩⟩
      have w7 := w6.trans s7
      have su := same_new (o := .tup [.str (txt ds3 rs3), .ref t1, .int ((2 * nh 0 2 ds3 + nh 0 2 (sw rs3) : Nat) : Int)]) nu
      have hes : ∀ r ∈ es, r.1.natAbs < 2 ^ 39 ∧ r.2.natAbs < 2 ^ 39 := fun r hr => by
        rcases List.mem_append.mp (perme.mem_iff.mp hr) with z | z
        · rcases List.mem_append.mp z with z | z
          · exact sml.2.2.1 r z
          · exact sml.2.2.1 r z
        · exact sw_mem rs3 sml.2.2.2 r z
      have les : es.length ≤ 500 := by
        rw [perme.length_eq]
        simp only [List.length_append, sw_len]
        omega
      have hnh : (2 * nh 0 2 ds3 + nh 0 2 (sw rs3)) ≤ 3000 := by
        have h1 : nh 0 2 ds3 ≤ ds3.length := List.countP_le_length
        have h2 : nh 0 2 (sw rs3) ≤ (sw rs3).length := List.countP_le_length
        rw [sw_len] at h2
        omega
      have nice := nice_say (n := ((2 * nh 0 2 ds3 + nh 0 2 (sw rs3) : Nat) : Int)) (cp_txt ds3 rs3) (txt_len sml) hes (by omega) (by rw [Int.natAbs_natCast]; exact Nat.lt_of_le_of_lt hnh (by decide))
      have dpS : ∀ {Hq : Hp} {u t1 : Addr} {ys1 : List V}, Hq u = some (.tup [.str (txt ds3 rs3), .ref t1, .int ((2 * nh 0 2 ds3 + nh 0 2 (sw rs3) : Nat) : Int)]) → Hq t1 = some (.tup ys1) → PairsAt Hq ys1 es → Dp K Hq (.ref u) (dSay (txt ds3 rs3) es ((2 * nh 0 2 ds3 + nh 0 2 (sw rs3) : Nat) : Int)) := fun h1 h2 h3 => .tup (SqT.of h1) (.cons (.str _) (.cons (.tup (SqT.of h2) (dp_pairs h3)) (.cons (.int _) .nil)))
      refine ⟨u, _, rfl, dpS upd_same ((s7.trans su) _ _ et) (pe.same (s7.trans su)), nice, ?_⟩
      have wu := w7.trans su
      have g5 := g4.same wu
      have cy5 := cy.same wu
      have eS5 := wu _ _ eS4
      generalize upd H7 u (.tup [.str (txt ds3 rs3), .ref t1, .int ((2 * nh 0 2 ds3 + nh 0 2 (sw rs3) : Nat) : Int)]) = H8 at g5 cy5 eS5 wu su ⊢
      clear wu su w7 w6 s7 s6 s5 hy cy eS4 g4 et pe nu
      clear u t1 ys1 H7 H6 H5 H4 k1 k2 dy
      -- for reading
      obtain ⟨r0, rest, hrest⟩ : ∃ r0 rest, new = r0 :: rest := by
        cases new with
        | nil => simp at n1
        | cons r0 rest => exact ⟨r0, rest, rfl⟩
      refine ⟨.ref S, rfl, S, _, 0, .int r0, rfl, rfl, SqL.of eS5, by rw [hrest]; exact at_of (j := 0) rfl rfl, 10, 6, rfl, rfl, ⟨by decide, by decide, by decide⟩, l3s, fun L nL => ?_⟩
      obtain ⟨big, hbig⟩ : ∃ big : Int, big = (10 : Int) ^ (6 : Int).toNat := ⟨_, rfl⟩
      have e0 : ([.int r0, .int 3, .int ((10 : Int) ^ (6 : Int).toNat)] : List V) = ([r0, 3, big] : List Int).map V.int := by rw [hbig]; rfl
      rw [show (upd H8 L (.lst [.int r0, .int 3, .int ((10 : Int) ^ (6 : Int).toNat)])) = upd H8 L (.lst (([r0, 3, big] : List Int).map V.int)) by rw [e0]]
      have sL := same_new (o := .lst (([r0, 3, big] : List Int).map V.int)) nL
      have eL := upd_same (H := H8) (a := L) (o := .lst (([r0, 3, big] : List Int).map V.int))
      have g6 := g5.same sL
      have cy6 := cy5.same sL
      have eS6 := sL _ _ eS5
      generalize upd H8 L (.lst (([r0, 3, big] : List Int).map V.int)) = H9 at sL eL g6 cy6 eS6 ⊢
      clear sL nL eS5 cy5 g5 H8
      refine ⟨L, rfl, ⟨_, SqL.of eL⟩, for_list (K := K) (a := L) (xs := ([r0, 3, big] : List Int).map V.int) (fun _ σ Hx => Same H9 Hx ∧ ∃ r1 r3 r10 r11 r12 r13 r14 : Option V, σ = [some (.ref a), r1, some (.ref f), r3, some (.ref p), some (.ref x), some (.ref D), some (.ref S), some (.ref y), some (.str (dSay (txt ds3 rs3) es ((2 * nh 0 2 ds3 + nh 0 2 (sw rs3) : Nat) : Int)).shown), r10, r11, r12, r13, r14]) ⟨Same.refl _, _, _, _, _, _, _, _, rfl⟩ (fun i σ Hx _ g => SqL.of (g.1 _ _ eL)) ?_ ?_⟩
      · rintro i v σ Hx hv ⟨sx, r1, r3, r10, r11, r12, r13, r14, rfl⟩
        obtain ⟨r, hr2, rfl⟩ := int_at hv
        have gx := g6.same sx
        obtain ⟨dxx, hxx⟩ := gx.ca.ins
        refine ⟨.ref x, rfl, x, dxx, _, rfl, hxx, rfl, .int r, rfl, x, C1, R1, _, _, _, r, rfl, gx.ca, zz, cn.nf, by omega, fun H5 t yt es2 cs rs' s5 ht pt permt srtt runt nft => ?_⟩
        have gy := gx.same s5
        refine ⟨.ref f, rfl, .ref D, rfl, .int r, rfl, f, D, _, _, _, r, rfl, gy.hD, gy.cn, by omega, fun H6 z yl rl cs0 r0' s6 hz pl sr pm run0 nf0 => ?_⟩
        refine ⟨z, yl, rfl, .inl ⟨SqL.of hz, fun u nu => ?_⟩⟩
        have su := same_new (o := .tup yl) nu
        obtain ⟨_, ec⟩ := RM.one_count (zz_push r zz) runt nft run0 nf0
        have ee : es2 = rl := sorted_same ((permt.trans ec).trans pm.symm) srtt sr
        subst ee
        refine ⟨.tuple (dPairs es2), .tuple (dPairs es2), .tup (SqT.of ((s6.trans su) _ _ ht)) (dp_pairs (pt.same (s6.trans su))), .tup (SqT.of upd_same) (dp_pairs (pl.same su)), shaped_tpr _, shaped_tpr _, _, rfl, ?_⟩
        rw [eqv_same (shaped_tpr _)]
        exact iteF ⟨sx.trans (s5.trans (s6.trans su)), _, _, _, _, _, _, _, rfl⟩
      rintro σ Hx ⟨sx, r1, r3, r10, r11, r12, r13, r14, rfl⟩
      have gx := g6.same sx
      have cyx := cy6.same sx
      have eSx := sx _ _ eS6
      clear sx eL g6 cy6 eS6 hrest
      -- grown
      refine ⟨.ref x, rfl, .ref S, rfl, x, S, C1, R1, _, _, la.take k, new, _, rfl, gx.ca, gx.cn, eSx, n4, by omega, fun H1 ds1 rs1 c1 ca1 cn1 => ?_⟩
      have hD1 := c1 _ _ gx.Dx gx.DC gx.DR gx.hD
      have eS1 := c1 _ _ Sx SC SR eSx
      have cy1 := cnt_ch3 cyx gx.ca c1 nyx
      refine ⟨.ref D, rfl, .ref S, rfl, D, S, _, _, rfl, rfl, hD1, eS1, Nat.le_of_lt (small3000 (by rw [List.length_map, List.length_map]; omega)), fun D2 nD2 => ?_⟩
      have e2 : (la.take k).map V.int ++ new.map V.int = (la.take (k + new.length)).map V.int := by rw [← List.map_append, hnew]
      rw [e2]
      have sD := same_new (o := .lst ((la.take (k + new.length)).map V.int)) nD2
      rw [hnew] at cn1
      have lk2 : (la.take (k + new.length)).length = k + new.length := by rw [List.length_take]; omega
      have en : (((la.take k).length : Nat) : Int) + (new.length : Nat) = ((la.take (k + new.length)).length : Nat) := by rw [lk, lk2]; omega
      rw [en] at ca1
      have fe1 : FeedAt H1 f := by
        obtain ⟨d, st, h1, h2, h3, h4⟩ := gx.fe
        exact ⟨d, st, h1, h2, h3, c1 _ _ gx.nx.symm gx.nC.symm gx.nR.symm h4⟩
      have DC2 : D2 ≠ C1 := fun z => by
        obtain ⟨xs, h, _⟩ := ca1.cy
        rw [z, h] at nD2; cases nD2
      have DR2 : D2 ≠ R1 := fun z => by rw [z, ca1.r] at nD2; cases nD2
      have g7 := gx.done (D2 := D2) (c1.trans (fun b o _ _ _ e => sD b o e)) (ca1.same sD) cn1 upd_same (fe1.ne nD2) DC2 DR2
      have cy7 := cy1.same sD
      generalize upd H1 D2 (.lst ((la.take (k + new.length)).map V.int)) = H2 at g7 cy7 ⊢
      clear sD nD2 DC2 DR2 fe1 ca1 hD1 eS1 cy1 c1 eSx gx cyx e2 en
      clear H1 Hx H9
      -- cycles, rest
      refine ⟨.ref f, rfl, .ref D2, rfl, f, D2, _, rfl, SqL.of g7.hD, by omega, fun H3 z q1 q2 yc cs2 ds2 rs2 s3 nz nq1 hz h1 pa perm srt h2 run2 nf2 => ?_⟩
      obtain ⟨ed, er⟩ := cn_one rfl (⟨⟨cs2, run2, perm⟩, nf2, srt⟩ : Cn _ ds2 rs2) cn1
      subst ed er
      refine ⟨z, _, rfl, SqT.of hz, rfl, .ref q1, [.ref q2], rfl, .ref q2, [], rfl, rfl, ?_⟩
      have g8 := g7.same s3
      have cy8 := cy7.same s3
      clear hz nz nq1 s3 g7 cy7 run2 perm
      clear H2
      have zz2 := cn_zz cn1
      have cl2 := cn_len cn1
      have hbk2 : ∀ n ∈ la.take (k + new.length), n.natAbs < 2 ^ 39 := fun n hn => hb39 n (List.mem_of_mem_take hn)
      have sml2 := cn_small cn1 hbk2 (by omega)
      -- now
      obtain ⟨dx8, hx8⟩ := g8.ca.ins
      refine ⟨.ref x, rfl, x, dx8, _, rfl, hx8, x, C1, R1, _, _, _, rfl, g8.ca, fun H4 y2 s4 ny2 cw => ?_⟩
      have g9 := g8.same s4
      have cy9 := cy8.same s4
      have h19 := s4 _ _ h1
      have h29 := s4 _ _ h2
      have pa9 := pa.same s4
      clear s4 ny2 hx8 g8 cy8 h1 h2 pa
      clear dx8 H3
      obtain ⟨dw, k1, k2, hw⟩ := sat2 cw
      refine ⟨.ref y2, rfl, y2, dw, _, rfl, hw, y2, _, _, rfl, cw, fun t1 yt1 ht1 pt1 => ⟨.ref y2, rfl, y2, dw, _, rfl, hw, y2, _, _, rfl, cw, fun t2 ht2 => ⟨l2s, fun u nu => ?_⟩⟩⟩
      have su := same_new (o := .tup [.ref t1, .ref t2]) nu
      have nice2 := nice_cn sml2.2.2.1 sml2.2.2.2 (show ds2.length ≤ 500 by omega) (show rs2.length ≤ 500 by omega)
      refine ⟨u, _, rfl, dp_cn upd_same (su _ _ ht1) (pt1.same su) (su _ _ ht2), nice2, ?_⟩
      refine ⟨.ref q1, rfl, q1, yc, rfl, .inl ⟨SqL.of (su _ _ h19), fun u1 nu1 => ?_⟩⟩
      have su1 := same_new (o := .tup yc) nu1
      refine ⟨.ref q2, rfl, q2, _, rfl, .inl ⟨SqL.of (su1 _ _ (su _ _ h29)), fun u2 nu2 => ⟨l2s, fun u3 nu3 => ?_⟩⟩⟩
      have su2 := same_new (o := .tup (rs2.map V.int)) nu2
      have su3 := same_new (o := .tup [.ref u1, .ref u2]) nu3
      have w3 := su.trans (su1.trans (su2.trans su3))
      refine ⟨u3, _, rfl, dp_cn upd_same (su3 _ _ (su2 _ _ upd_same)) (pa9.same w3) (su3 _ _ upd_same), nice2, rfl, _, rfl, iteNS rfl ?_⟩
      have g10 := g9.same w3
      have cy10 := cy9.same w3
      have h110 := w3 _ _ h19
      have pa10 := pa9.same w3
      have cw10 := cw.same w3
      generalize upd (upd (upd (upd H4 u (.tup [.ref t1, .ref t2])) u1 (.tup yc)) u2 (.tup (rs2.map V.int))) u3 (.tup [.ref u1, .ref u2]) = H5 at g10 cy10 h110 pa10 cw10 w3 su3 ⊢
      clear w3 su3 su2 su1 su nu3 nu2 nu1 nu ht1 pt1 ht2 hw cw g9 cy9 h19 h29 pa9
      clear dw k1 k2 yt1 t1 t2 u u1 u2 u3 H4
      -- total
      obtain ⟨dx5, hx5⟩ := g10.ca.ins
      refine ⟨.ref x, rfl, x, dx5, _, rfl, hx5, x, C1, R1, _, _, _, rfl, g10.ca, .ref D2, rfl, D2, _, rfl, .inl (SqL.of g10.hD), rfl, _, rfl, iteNS (congrArg V.int (by rw [List.length_map])) ?_⟩
      -- grown
      obtain ⟨dy, k1, k2, hy⟩ := sat2 cy10
      have ycl := pa10.length
      refine ⟨.int (((ds2.length : Nat) : Int) - (ds3.length : Nat)), rfl, _, rfl, log_int (by omega), ?_⟩
      refine ⟨.ref q1, rfl, q1, yc, rfl, .inl (SqL.of h110), .ref y, rfl, y, dy, _, rfl, hy, y, _, _, rfl, cy10, fun t yt ht pt => ⟨t, _, rfl, .inr (SqT.of ht), _, _, rfl, rfl, _, rfl, ?_⟩⟩
      have ytl := pt.length
      rw [ycl, ytl]
      refine ⟨log_int (by omega), rfl, _, rfl, iteNS rfl ?_⟩
      clear ht pt ytl
      clear yt t
      -- text once more
      refine ⟨.ref y, rfl, y, dy, _, rfl, hy, y, _, _, rfl, cy10, sml, fun H6 s6 => ⟨_, rfl, ?_⟩⟩
      refine ⟨.ref y, rfl, y, dy, _, rfl, s6 _ _ hy, y, _, _, rfl, cy10.same s6, by omega, by omega, zz, fun H7 t1 yt es7 s7 et pe perm7 srt7 => ?_⟩
      have ee : es7 = es := sorted_same (perm7.trans perme.symm) srt7 srte
      subst ee
      have w7 := s6.trans s7
      refine ⟨.ref y, rfl, y, dy, _, rfl, w7 _ _ hy, rfl, y, _, _, 0, 2, rfl, cy10.same w7, by omega, by omega, zz, fun H8 s8 => ⟨l3s, fun u nu => ?_⟩⟩
      have su := same_new (o := .tup [.str (txt ds3 rs3), .ref t1, .int ((2 * nh 0 2 ds3 + nh 0 2 (sw rs3) : Nat) : Int)]) nu
      refine ⟨u, _, rfl, dpS upd_same ((s8.trans su) _ _ et) (pe.same (s8.trans su)), nice, .str _, rfl, rfl, _, rfl, iteNS rfl ?_⟩
      have wu := w7.trans (s8.trans su)
      have g11 := g10.same wu
      have cw11 := cw10.same wu
      generalize upd H8 u (.tup [.str (txt ds3 rs3), .ref t1, .int ((2 * nh 0 2 ds3 + nh 0 2 (sw rs3) : Nat) : Int)]) = H9 at g11 cw11 wu su ⊢
      clear wu su nu et pe s8 w7 s7 s6 perm7 srt7 hy hx5 cw10 cy10 h110 pa10 g10 ycl
      clear u t1 yt H8 H7 H6 H5 dy k1 k2 dx5
      -- changes
      obtain ⟨dw, k1, k2, hw⟩ := sat2 cw11
      obtain ⟨c0, run0, p0⟩ := cn1.ex
      have chgE : ∀ lo hi : Int, lo < hi → ((2 * nh lo hi ds2 + nh lo hi (sw rs2) : Nat) : Int) = ((KM.chg (la.take (k + new.length)) lo hi : Nat) : Int) := fun lo hi h0 => by
        rw [chg_count h0 run0 cn1.nf, nh_perm p0]
      refine ⟨.ref y2, rfl, y2, dw, _, rfl, hw, rfl, y2, _, _, 0, 2, rfl, cw11, by omega, by omega, zz2, fun H6 s6 => ?_⟩
      have g12 := g11.same s6
      refine ⟨.ref D2, rfl, D2, _, 0, 2, rfl, SqL.of g12.hD, by omega, fun H7 s7 => ⟨rfl, _, rfl, iteNS (congrArg V.int (chgE 0 2 (by decide))) ?_⟩⟩
      have w7 := s6.trans s7
      refine ⟨.ref y2, rfl, y2, dw, _, rfl, w7 _ _ hw, rfl, y2, _, _, 1, 4, rfl, cw11.same w7, by omega, by omega, zz2, fun H8 s8 => ?_⟩
      have w8 := w7.trans s8
      have g13 := g11.same w8
      refine ⟨.ref D2, rfl, D2, _, 1, 4, rfl, SqL.of g13.hD, by omega, fun H10 s10 => ⟨rfl, _, rfl, iteNS (congrArg V.int (chgE 1 4 (by decide))) ?_⟩⟩
      exact ⟨la.length - (k + new.length), by omega, D2, _, _, k + new.length, rfl, nk, g13.same s10, _, _, _, _, _, _, _, _, _, _, rfl⟩
    · rw [decide_eq_false (show ¬ (((la.take k).map V.int).length : Int) < ((la.map V.int).length : Int) by rw [lm, List.length_map]; omega)]
      refine iteF ?_
      have ek : k = la.length := by omega
      subst ek
      rw [List.take_length] at g
      have cn := g.cn
      have zz := cn_zz cn
      have cl := cn_len cn
      obtain ⟨dx1, hx1⟩ := g.ca.ins
      refine ⟨.ref x, rfl, x, dx1, _, rfl, hx1, x, C1, R1, _, _, _, rfl, g.ca, fun H7 y s7 ny cy => ?_⟩
      have g7 := g.same s7
      refine ⟨rfl, .ref p, rfl, p, la, rfl, .inl (SqL.of g7.hp), by omega, fun H8 z cs3 ds3 rs3 s8 nz cz run3 nf3 perm3 srt3 => ?_⟩
      obtain ⟨ed, er⟩ := cn_one rfl (⟨⟨cs3, run3, perm3⟩, nf3, srt3⟩ : Cn la ds3 rs3) cn
      subst ed er
      have cy2 := cy.same s8
      obtain ⟨dy, k1, k2, hy⟩ := sat2 cy2
      obtain ⟨dz, k3, k4, hz⟩ := sat2 cz
      refine ⟨y, z, dy, dz, _, _, rfl, rfl, hy, hz, y, z, _, _, _, _, rfl, cy2, cz, _, rfl, _, rfl, ?_⟩
      rw [show (decide (ds3 = ds3) && decide (rs3 = rs3)) = true by simp]
      refine iteF ?_
      have g8 := g7.same s8
      obtain ⟨dx8, hx8⟩ := g8.ca.ins
      refine ⟨.ref x, rfl, x, dx8, _, rfl, hx8, x, C1, R1, _, _, _, rfl, g8.ca, fun H9 y s9 ny cy => ?_⟩
      obtain ⟨dy, k1, k2, hy⟩ := sat2 cy
      refine ⟨y, dy, _, rfl, hy, y, _, _, rfl, cy, by omega, by omega, zz, fun H10 t1 yt es s10 et pe perm srt => ?_⟩
      have g10 := g8.same (s9.trans s10)
      refine ⟨rfl, .ref p, rfl, p, la, rfl, .inl (SqL.of g10.hp), by omega, fun H11 z2 cs3' ds4 rs4 s11 nz2 cz3 run4 nf4 perm4 srt4 => ?_⟩
      obtain ⟨ed, er⟩ := cn_one rfl (⟨⟨cs3', run4, perm4⟩, nf4, srt4⟩ : Cn la ds4 rs4) cn
      subst ed er
      obtain ⟨dz2, k5, k6, hz2⟩ := sat2 cz3
      refine ⟨z2, dz2, _, rfl, hz2, z2, _, _, rfl, cz3, by omega, by omega, zz, fun H12 t2 yt2 es2 s12 et2 pe2 perm2 srt2 => ?_⟩
      have ee : es2 = es := sorted_same (perm2.trans perm.symm) srt2 srt
      subst ee
      have w12 := s11.trans s12
      refine ⟨.tuple (dPairs es2), .tuple (dPairs es2), .tup (SqT.of (w12 _ _ et)) (dp_pairs (pe.same w12)), .tup (SqT.of et2) (dp_pairs pe2), shaped_tpr _, shaped_tpr _, _, rfl, ?_⟩
      rw [eqv_same (shaped_tpr _)]
      refine iteF ?_
      have g12 := g10.same w12
      exact ⟨g12.sm, g12.fe, _, _, _, _, _, _, _, _, _, _, _, _, _, rfl⟩
end
end E3L

namespace E3E
open PySem PySem.Spec PyProof.Rows L2 KA KD KL PH PM PA PB PC RM RN RS QE QF QG QH QJ QK QL WN WF2 WP RJ BO BCt BCu E3T
theorem all_mk {l : PySem.W.OpenLaw} {w : World} {K : PySem.W.Frag} {h : Heap} {mg : Str → Option Value} {fa C CC pO pC pR pE pKC pKT f1 f2 f3 f4 f5 f6 f7 f8 f9 f10 f11 f12 f13 f14 f15 f16 f17 f18 f19 f20 f21 f22 f23 f24 f25 f26 f27 fmI fmO fmC fmR fmE fmG fmQ fmS fmKI fmKC fmKT fmKA fmKP fmKK : Addr} (X : K.In h) (G : h.Ns mainGlobals mg) (hfa : mg "law" = some (.ref fa))
    {od1 an1 od2 an2 od3 an3 od4 an4 od5 an5 od6 an6 od7 an7 od8 an8 od9 an9 od10 an10 od11 an11 od12 an12 od13 an13 od14 an14 od15 an15 od16 an16 od17 an17 od18 an18 od19 an19 od20 an20 od21 an21 od22 an22 od23 an23 od24 an24 od25 an25 od26 an26 od27 an27 odmI anmI odmO anmO odmC anmC odmR anmR odmE anmE odmG anmG odmQ anmQ odmS anmS odmKI anmKI odmKC anmKC odmKT anmKT odmKA anmKA odmKP anmKP odmKK anmKK : Option Addr} {sl1 sl2 sl3 sl4 sl5 sl6 sl7 sl8 sl9 sl10 sl11 sl12 sl13 sl14 sl15 sl16 sl17 sl18 sl19 sl20 sl21 sl22 sl23 sl24 sl25 sl26 sl27 slmI slmO slmC slmR slmE slmG slmQ slmS slmKI slmKC slmKT slmKA slmKP slmKK : Array (Option Value)} {oc1 kV1 dc1 pm1 cd1 ct1 oc2 kV2 dc2 pm2 cd2 ct2 oc3 kV3 dc3 pm3 cd3 ct3 oc4 kV4 dc4 pm4 cd4 ct4 oc5 kV5 dc5 pm5 cd5 ct5 oc6 kV6 dc6 pm6 cd6 ct6 oc7 kV7 dc7 pm7 cd7 ct7 oc8 kV8 dc8 pm8 cd8 ct8 oc9 kV9 dc9 pm9 cd9 ct9 oc10 kV10 dc10 pm10 cd10 ct10 oc11 kV11 dc11 pm11 cd11 ct11 oc12 kV12 dc12 pm12 cd12 ct12 oc13 kV13 dc13 pm13 cd13 ct13 oc14 kV14 dc14 pm14 cd14 ct14 oc15 kV15 dc15 pm15 cd15 ct15 oc16 kV16 dc16 pm16 cd16 ct16 oc17 kV17 dc17 pm17 cd17 ct17 oc18 kV18 dc18 pm18 cd18 ct18 oc19 kV19 dc19 pm19 cd19 ct19 oc20 kV20 dc20 pm20 cd20 ct20 oc21 kV21 dc21 pm21 cd21 ct21 oc22 kV22 dc22 pm22 cd22 ct22 oc23 kV23 dc23 pm23 cd23 ct23 oc24 kV24 dc24 pm24 cd24 ct24 oc25 kV25 dc25 pm25 cd25 ct25 oc26 kV26 dc26 pm26 cd26 ct26 oc27 kV27 dc27 pm27 cd27 ct27 ocmI kVmI dcmI pmmI cdmI ctmI ocmO kVmO dcmO pmmO cdmO ctmO ocmC kVmC dcmC pmmC cdmC ctmC ocmR kVmR dcmR pmmR cdmR ctmR ocmE kVmE dcmE pmmE cdmE ctmE ocmG kVmG dcmG pmmG cdmG ctmG ocmQ kVmQ dcmQ pmmQ cdmQ ctmQ ocmS kVmS dcmS pmmS cdmS ctmS ocmKI kVmKI dcmKI pmmKI cdmKI ctmKI ocmKC kVmKC dcmKC pmmKC cdmKC ctmKC ocmKT kVmKT dcmKT pmmKT cdmKT ctmKT ocmKA kVmKA dcmKA pmmKA cdmKA ctmKA ocmKP kVmKP dcmKP pmmKP cdmKP ctmKP ocmKK kVmKK dcmKK pmmKK cdmKK ctmKK : Value} {rO rC rR rE rKC rKT : List Value} {vN : Value}
    (a1 : PySem.W.nsIn K mainGlobals "contains" = some (some (.ref f1)))
    (l1 : K.lookup f1 = some ⟨oc1, od1, .func (PySem.W.fnOf "contains" "contains" (defArgs sCont) (defBody sCont) (defScope sCont) .none kV1 dc1 pm1 an1 cd1 ct1), sl1⟩)
    (c1 : PySem.W.codeIn K cd1 "contains" = true)
    (k1 : PySem.W.keepIn K (.ref f1) = true)
    (a2 : PySem.W.nsIn K mainGlobals "range_of" = some (some (.ref f2)))
    (l2 : K.lookup f2 = some ⟨oc2, od2, .func (PySem.W.fnOf "range_of" "range_of" (defArgs sRng) (defBody sRng) (defScope sRng) .none kV2 dc2 pm2 an2 cd2 ct2), sl2⟩)
    (c2 : PySem.W.codeIn K cd2 "range_of" = true)
    (k2 : PySem.W.keepIn K (.ref f2) = true)
    (a3 : PySem.W.nsIn K mainGlobals "turning_points" = some (some (.ref f3)))
    (l3 : K.lookup f3 = some ⟨oc3, od3, .func (PySem.W.fnOf "turning_points" "turning_points" (defArgs sTP) (defBody sTP) (defScope sTP) .none kV3 dc3 pm3 an3 cd3 ct3), sl3⟩)
    (c3 : PySem.W.codeIn K cd3 "turning_points" = true)
    (k3 : PySem.W.keepIn K (.ref f3) = true)
    (a4 : PySem.W.nsIn K mainGlobals "is_left_out" = some (some (.ref f4)))
    (l4 : K.lookup f4 = some ⟨oc4, od4, .func (PySem.W.fnOf "is_left_out" "is_left_out" (defArgs sLO) (defBody sLO) (defScope sLO) .none kV4 dc4 pm4 an4 cd4 ct4), sl4⟩)
    (c4 : PySem.W.codeIn K cd4 "is_left_out" = true)
    (k4 : PySem.W.keepIn K (.ref f4) = true)
    (a5 : PySem.W.nsIn K mainGlobals "_lies_between" = some (some (.ref f5)))
    (l5 : K.lookup f5 = some ⟨oc5, od5, .func (PySem.W.fnOf "_lies_between" "_lies_between" (defArgs sBtw) (defBody sBtw) (defScope sBtw) .none kV5 dc5 pm5 an5 cd5 ct5), sl5⟩)
    (c5 : PySem.W.codeIn K cd5 "_lies_between" = true)
    (k5 : PySem.W.keepIn K (.ref f5) = true)
    (a6 : PySem.W.nsIn K mainGlobals "swings" = some (some (.ref f6)))
    (l6 : K.lookup f6 = some ⟨oc6, od6, .func (PySem.W.fnOf "swings" "swings" (defArgs sSw) (defBody sSw) (defScope sSw) .none kV6 dc6 pm6 an6 cd6 ct6), sl6⟩)
    (c6 : PySem.W.codeIn K cd6 "swings" = true)
    (k6 : PySem.W.keepIn K (.ref f6) = true)
    (a7 : PySem.W.nsIn K mainGlobals "changes" = some (some (.ref f7)))
    (l7 : K.lookup f7 = some ⟨oc7, od7, .func (PySem.W.fnOf "changes" "changes" (defArgs sCh) (defBody sCh) (defScope sCh) .none kV7 dc7 pm7 an7 cd7 ct7), sl7⟩)
    (c7 : PySem.W.codeIn K cd7 "changes" = true)
    (k7 : PySem.W.keepIn K (.ref f7) = true)
    (a8 : PySem.W.nsIn K mainGlobals "_may_be_taken" = some (some (.ref f8)))
    (l8 : K.lookup f8 = some ⟨oc8, od8, .func (PySem.W.fnOf "_may_be_taken" "_may_be_taken" (defArgs sMT) (defBody sMT) (defScope sMT) .none kV8 dc8 pm8 an8 cd8 ct8), sl8⟩)
    (c8 : PySem.W.codeIn K cd8 "_may_be_taken" = true)
    (k8 : PySem.W.keepIn K (.ref f8) = true)
    (a9 : PySem.W.nsIn K mainGlobals "put_behind" = some (some (.ref f9)))
    (l9 : K.lookup f9 = some ⟨oc9, od9, .func (PySem.W.fnOf "put_behind" "put_behind" (defArgs sPB) (defBody sPB) (defScope sPB) .none kV9 dc9 pm9 an9 cd9 ct9), sl9⟩)
    (c9 : PySem.W.codeIn K cd9 "put_behind" = true)
    (k9 : PySem.W.keepIn K (.ref f9) = true)
    (a10 : PySem.W.nsIn K mainGlobals "_counted" = some (some (.ref f10)))
    (l10 : K.lookup f10 = some ⟨oc10, od10, .func (PySem.W.fnOf "_counted" "_counted" (defArgs sCo) (defBody sCo) (defScope sCo) .none kV10 dc10 pm10 an10 cd10 ct10), sl10⟩)
    (c10 : PySem.W.codeIn K cd10 "_counted" = true)
    (k10 : PySem.W.keepIn K (.ref f10) = true)
    (a11 : PySem.W.nsIn K mainGlobals "cycles_row" = some (some (.ref f11)))
    (l11 : K.lookup f11 = some ⟨oc11, od11, .func (PySem.W.fnOf "cycles_row" "cycles_row" (defArgs sCR) (defBody sCR) (defScope sCR) .none kV11 dc11 pm11 an11 cd11 ct11), sl11⟩)
    (c11 : PySem.W.codeIn K cd11 "cycles_row" = true)
    (k11 : PySem.W.keepIn K (.ref f11) = true)
    (a12 : PySem.W.nsIn K mainGlobals "points_row" = some (some (.ref f12)))
    (l12 : K.lookup f12 = some ⟨oc12, od12, .func (PySem.W.fnOf "points_row" "points_row" (defArgs sPRw) (defBody sPRw) (defScope sPRw) .none kV12 dc12 pm12 an12 cd12 ct12), sl12⟩)
    (c12 : PySem.W.codeIn K cd12 "points_row" = true)
    (k12 : PySem.W.keepIn K (.ref f12) = true)
    (a13 : PySem.W.nsIn K mainGlobals "place_in" = some (some (.ref f13)))
    (l13 : K.lookup f13 = some ⟨oc13, od13, .func (PySem.W.fnOf "place_in" "place_in" (defArgs BO.sPI) (defBody BO.sPI) (defScope BO.sPI) .none kV13 dc13 pm13 an13 cd13 ct13), sl13⟩)
    (c13 : PySem.W.codeIn K cd13 "place_in" = true)
    (k13 : PySem.W.keepIn K (.ref f13) = true)
    (a14 : PySem.W.nsIn K mainGlobals "put_in" = some (some (.ref f14)))
    (l14 : K.lookup f14 = some ⟨oc14, od14, .func (PySem.W.fnOf "put_in" "put_in" (defArgs sPT) (defBody sPT) (defScope sPT) .none kV14 dc14 pm14 an14 cd14 ct14), sl14⟩)
    (c14 : PySem.W.codeIn K cd14 "put_in" = true)
    (k14 : PySem.W.keepIn K (.ref f14) = true)
    (a15 : PySem.W.nsIn K mainGlobals "_law_feed" = some (some (.ref f15)))
    (l15 : K.lookup f15 = some ⟨oc15, od15, .func (PySem.W.fnOf "_law_feed" "_law_feed" (defArgs sFeed) (defBody sFeed) (defScope sFeed) .none kV15 dc15 pm15 an15 cd15 ct15), sl15⟩)
    (c15 : PySem.W.codeIn K cd15 "_law_feed" = true)
    (k15 : PySem.W.keepIn K (.ref f15) = true)
    (a16 : PySem.W.nsIn K mainGlobals "_law_take" = some (some (.ref f16)))
    (l16 : K.lookup f16 = some ⟨oc16, od16, .func (PySem.W.fnOf "_law_take" "_law_take" (defArgs sTake) (defBody sTake) (defScope sTake) .none kV16 dc16 pm16 an16 cd16 ct16), sl16⟩)
    (c16 : PySem.W.codeIn K cd16 "_law_take" = true)
    (k16 : PySem.W.keepIn K (.ref f16) = true)
    (a17 : PySem.W.nsIn K mainGlobals "_law_pick" = some (some (.ref f17)))
    (l17 : K.lookup f17 = some ⟨oc17, od17, .func (PySem.W.fnOf "_law_pick" "_law_pick" (defArgs sPick) (defBody sPick) (defScope sPick) .none kV17 dc17 pm17 an17 cd17 ct17), sl17⟩)
    (c17 : PySem.W.codeIn K cd17 "_law_pick" = true)
    (k17 : PySem.W.keepIn K (.ref f17) = true)
    (a18 : PySem.W.nsIn K mainGlobals "_law_load" = some (some (.ref f18)))
    (l18 : K.lookup f18 = some ⟨oc18, od18, .func (PySem.W.fnOf "_law_load" "_law_load" (defArgs sLoad) (defBody sLoad) (defScope sLoad) .none kV18 dc18 pm18 an18 cd18 ct18), sl18⟩)
    (c18 : PySem.W.codeIn K cd18 "_law_load" = true)
    (k18 : PySem.W.keepIn K (.ref f18) = true)
    (a19 : PySem.W.nsIn K mainGlobals "_law_points" = some (some (.ref f19)))
    (l19 : K.lookup f19 = some ⟨oc19, od19, .func (PySem.W.fnOf "_law_points" "_law_points" (defArgs sLP) (defBody sLP) (defScope sLP) .none kV19 dc19 pm19 an19 cd19 ct19), sl19⟩)
    (c19 : PySem.W.codeIn K cd19 "_law_points" = true)
    (k19 : PySem.W.keepIn K (.ref f19) = true)
    (a20 : PySem.W.nsIn K mainGlobals "_law_range" = some (some (.ref f20)))
    (l20 : K.lookup f20 = some ⟨oc20, od20, .func (PySem.W.fnOf "_law_range" "_law_range" (defArgs sLR) (defBody sLR) (defScope sLR) .none kV20 dc20 pm20 an20 cd20 ct20), sl20⟩)
    (c20 : PySem.W.codeIn K cd20 "_law_range" = true)
    (k20 : PySem.W.keepIn K (.ref f20) = true)
    (a21 : PySem.W.nsIn K mainGlobals "_law_holds" = some (some (.ref f21)))
    (l21 : K.lookup f21 = some ⟨oc21, od21, .func (PySem.W.fnOf "_law_holds" "_law_holds" (defArgs sLH) (defBody sLH) (defScope sLH) .none kV21 dc21 pm21 an21 cd21 ct21), sl21⟩)
    (c21 : PySem.W.codeIn K cd21 "_law_holds" = true)
    (k21 : PySem.W.keepIn K (.ref f21) = true)
    (a22 : PySem.W.nsIn K mainGlobals "_law_places" = some (some (.ref f22)))
    (l22 : K.lookup f22 = some ⟨oc22, od22, .func (PySem.W.fnOf "_law_places" "_law_places" (defArgs sPl) (defBody sPl) (defScope sPl) .none kV22 dc22 pm22 an22 cd22 ct22), sl22⟩)
    (c22 : PySem.W.codeIn K cd22 "_law_places" = true)
    (k22 : PySem.W.keepIn K (.ref f22) = true)
    (a23 : PySem.W.nsIn K mainGlobals "_law_count" = some (some (.ref f23)))
    (l23 : K.lookup f23 = some ⟨oc23, od23, .func (PySem.W.fnOf "_law_count" "_law_count" (defArgs sCt) (defBody sCt) (defScope sCt) .none kV23 dc23 pm23 an23 cd23 ct23), sl23⟩)
    (c23 : PySem.W.codeIn K cd23 "_law_count" = true)
    (k23 : PySem.W.keepIn K (.ref f23) = true)
    (a24 : PySem.W.nsIn K mainGlobals "_law_added" = some (some (.ref f24)))
    (l24 : K.lookup f24 = some ⟨oc24, od24, .func (PySem.W.fnOf "_law_added" "_law_added" (defArgs E3T.sAD) (defBody E3T.sAD) (defScope E3T.sAD) .none kV24 dc24 pm24 an24 cd24 ct24), sl24⟩)
    (c24 : PySem.W.codeIn K cd24 "_law_added" = true)
    (k24 : PySem.W.keepIn K (.ref f24) = true)
    (a25 : PySem.W.nsIn K mainGlobals "_law_closed" = some (some (.ref f25)))
    (l25 : K.lookup f25 = some ⟨oc25, od25, .func (PySem.W.fnOf "_law_closed" "_law_closed" (defArgs E3T.sCL) (defBody E3T.sCL) (defScope E3T.sCL) .none kV25 dc25 pm25 an25 cd25 ct25), sl25⟩)
    (c25 : PySem.W.codeIn K cd25 "_law_closed" = true)
    (k25 : PySem.W.keepIn K (.ref f25) = true)
    (a26 : PySem.W.nsIn K mainGlobals "_law_seven_right" = some (some (.ref f26)))
    (l26 : K.lookup f26 = some ⟨oc26, od26, .func (PySem.W.fnOf "_law_seven_right" "_law_seven_right" (defArgs E3T.sSE) (defBody E3T.sSE) (defScope E3T.sSE) .none kV26 dc26 pm26 an26 cd26 ct26), sl26⟩)
    (c26 : PySem.W.codeIn K cd26 "_law_seven_right" = true)
    (k26 : PySem.W.keepIn K (.ref f26) = true)
    (a27 : PySem.W.nsIn K mainGlobals "law" = some (some (.ref f27)))
    (l27 : K.lookup f27 = some ⟨oc27, od27, .func (PySem.W.fnOf "law" "law" (defArgs E3T.sLaw) (defBody E3T.sLaw) (defScope E3T.sLaw) .none kV27 dc27 pm27 an27 cd27 ct27), sl27⟩)
    (c27 : PySem.W.codeIn K cd27 "law" = true)
    (k27 : PySem.W.keepIn K (.ref f27) = true)
    (aC : PySem.W.nsIn K mainGlobals "Count" = some (some (.ref C)))
    (pg : PySem.W.plainGet K C Str.empty = true)
    (hd : PySem.W.hasDictIn K C = true)
    (po : PySem.W.plainOver K C = true)
    (sa : PySem.W.findIn K (.ref C) "__setattr__" = some (some (.builtin "object.__setattr__")))
    (na0 : PySem.W.findIn K (.ref C) "_cycles" = some none)
    (na1 : PySem.W.findIn K (.ref C) "_rest" = some none)
    (mk : PySem.W.makesIn K C = true)
    (kc : PySem.W.keepIn K (.ref C) = true)
    (aI : PySem.W.findIn K (.ref C) "__init__" = some (some (.ref fmI)))
    (iI : PySem.W.isFn K (.ref fmI) = true)
    (lmI : K.lookup fmI = some ⟨ocmI, odmI, .func (PySem.W.fnOf "__init__" "Count.__init__" (defArgs sInit) (defBody sInit) (defScope sInit) .none kVmI dcmI pmmI anmI cdmI ctmI), slmI⟩)
    (cmI : PySem.W.codeIn K cdmI "Count.__init__" = true)
    (kmI : PySem.W.keepIn K (.ref fmI) = true)
    (rd : PySem.W.readsIn K C (.type "type") = true)
    (ga : PySem.W.specialIn K (.ref C) "__getattribute__" = some (some (.builtin "type.__getattribute__")))
    (aO : PySem.W.findCls K (.ref C) (.type "type") "of" = some (.get (.builtin "classmethod.__get__") (.ref pO) .none (.ref C)))
    (rcO : PySem.W.recIn K pO "classmethod" = some (.ref fmO :: rO))
    (fiO : PySem.W.fnIn K fmO = true)
    (lmO : K.lookup fmO = some ⟨ocmO, odmO, .func (PySem.W.fnOf "of" "Count.of" (defArgs sOf) (defBody sOf) (defScope sOf) .none kVmO dcmO pmmO anmO cdmO ctmO), slmO⟩)
    (cmO : PySem.W.codeIn K cdmO "Count.of" = true)
    (kmO : PySem.W.keepIn K (.ref fmO) = true)
    (aPC : PySem.W.findIn K (.ref C) "cycles" = some (some (.ref pC)))
    (gPC : PySem.W.specialIn K (.ref pC) "__get__" = some (some (.builtin "property.__get__")))
    (tPC : PySem.W.takesIn K (.ref pC) = some true)
    (rcPC : PySem.W.recIn K pC "property" = some (.ref fmC :: rC))
    (lmC : K.lookup fmC = some ⟨ocmC, odmC, .func (PySem.W.fnOf "cycles" "Count.cycles" (defArgs sPC) (defBody sPC) (defScope sPC) .none kVmC dcmC pmmC anmC cdmC ctmC), slmC⟩)
    (cmC : PySem.W.codeIn K cdmC "Count.cycles" = true)
    (kmC : PySem.W.keepIn K (.ref fmC) = true)
    (aPR : PySem.W.findIn K (.ref C) "rest" = some (some (.ref pR)))
    (gPR : PySem.W.specialIn K (.ref pR) "__get__" = some (some (.builtin "property.__get__")))
    (tPR : PySem.W.takesIn K (.ref pR) = some true)
    (rcPR : PySem.W.recIn K pR "property" = some (.ref fmR :: rR))
    (lmR : K.lookup fmR = some ⟨ocmR, odmR, .func (PySem.W.fnOf "rest" "Count.rest" (defArgs sPR) (defBody sPR) (defScope sPR) .none kVmR dcmR pmmR anmR cdmR ctmR), slmR⟩)
    (cmR : PySem.W.codeIn K cdmR "Count.rest" = true)
    (kmR : PySem.W.keepIn K (.ref fmR) = true)
    (aPE : PySem.W.findIn K (.ref C) "half_cycles" = some (some (.ref pE)))
    (gPE : PySem.W.specialIn K (.ref pE) "__get__" = some (some (.builtin "property.__get__")))
    (tPE : PySem.W.takesIn K (.ref pE) = some true)
    (rcPE : PySem.W.recIn K pE "property" = some (.ref fmE :: rE))
    (lmE : K.lookup fmE = some ⟨ocmE, odmE, .func (PySem.W.fnOf "half_cycles" "Count.half_cycles" (defArgs sPH) (defBody sPH) (defScope sPH) .none kVmE dcmE pmmE anmE cdmE ctmE), slmE⟩)
    (cmE : PySem.W.codeIn K cdmE "Count.half_cycles" = true)
    (kmE : PySem.W.keepIn K (.ref fmE) = true)
    (aG : PySem.W.findIn K (.ref C) "changes" = some (some (.ref fmG)))
    (iG : PySem.W.isFn K (.ref fmG) = true)
    (lmG : K.lookup fmG = some ⟨ocmG, odmG, .func (PySem.W.fnOf "changes" "Count.changes" (defArgs sPG) (defBody sPG) (defScope sPG) .none kVmG dcmG pmmG anmG cdmG ctmG), slmG⟩)
    (cmG : PySem.W.codeIn K cdmG "Count.changes" = true)
    (kmG : PySem.W.keepIn K (.ref fmG) = true)
    (iha : PySem.W.findIn K (.ref C) "__class__" = some (some (.builtin "object.__class__")))
    (ihn : PySem.W.specialIn K (.builtin "object.__class__") "__get__" = some (some (.builtin "getset_descriptor.__get__")))
    (iht : PySem.W.takesIn K (.builtin "object.__class__") = some true)
    (ihm : PySem.W.mroIn K C (.type "object") = some true)
    (aQ : PySem.W.findIn K (.ref C) "__eq__" = some (some (.ref fmQ)))
    (iQ : PySem.W.isFn K (.ref fmQ) = true)
    (lmQ : K.lookup fmQ = some ⟨ocmQ, odmQ, .func (PySem.W.fnOf "__eq__" "Count.__eq__" (defArgs QL.sEQ) (defBody QL.sEQ) (defScope QL.sEQ) .none kVmQ dcmQ pmmQ anmQ cdmQ ctmQ), slmQ⟩)
    (cmQ : PySem.W.codeIn K cdmQ "Count.__eq__" = true)
    (kmQ : PySem.W.keepIn K (.ref fmQ) = true)
    (ne : PySem.W.findIn K (.ref C) "__ne__" = some (some (.builtin "object.__ne__")))
    (aS : PySem.W.findIn K (.ref C) "__str__" = some (some (.ref fmS)))
    (iS : PySem.W.isFn K (.ref fmS) = true)
    (lmS : K.lookup fmS = some ⟨ocmS, odmS, .func (PySem.W.fnOf "__str__" "Count.__str__" (defArgs WN.sST) (defBody WN.sST) (defScope WN.sST) .none kVmS dcmS pmmS anmS cdmS ctmS), slmS⟩)
    (cmS : PySem.W.codeIn K cdmS "Count.__str__" = true)
    (kmS : PySem.W.keepIn K (.ref fmS) = true)
    (aN : PySem.W.nsIn K mainGlobals "NOTHING" = some (some vN))
    (rN : RelV (.str "none") vN)
    (aCK : PySem.W.nsIn K mainGlobals "Counter" = some (some (.ref CC)))
    (pgK : PySem.W.plainGet K CC Str.empty = true)
    (hdK : PySem.W.hasDictIn K CC = true)
    (poK : PySem.W.plainOver K CC = true)
    (saK : PySem.W.findIn K (.ref CC) "__setattr__" = some (some (.builtin "object.__setattr__")))
    (na0K : PySem.W.findIn K (.ref CC) "_cycles" = some none)
    (na1K : PySem.W.findIn K (.ref CC) "_rest" = some none)
    (na2K : PySem.W.findIn K (.ref CC) "_total" = some none)
    (mkK : PySem.W.makesIn K CC = true)
    (kcK : PySem.W.keepIn K (.ref CC) = true)
    (aIK : PySem.W.findIn K (.ref CC) "__init__" = some (some (.ref fmKI)))
    (iIK : PySem.W.isFn K (.ref fmKI) = true)
    (lmKI : K.lookup fmKI = some ⟨ocmKI, odmKI, .func (PySem.W.fnOf "__init__" "Counter.__init__" (defArgs sKI) (defBody sKI) (defScope sKI) .none kVmKI dcmKI pmmKI anmKI cdmKI ctmKI), slmKI⟩)
    (cmKI : PySem.W.codeIn K cdmKI "Counter.__init__" = true)
    (kmKI : PySem.W.keepIn K (.ref fmKI) = true)
    (aPKC : PySem.W.findIn K (.ref CC) "counted" = some (some (.ref pKC)))
    (gPKC : PySem.W.specialIn K (.ref pKC) "__get__" = some (some (.builtin "property.__get__")))
    (tPKC : PySem.W.takesIn K (.ref pKC) = some true)
    (rcPKC : PySem.W.recIn K pKC "property" = some (.ref fmKC :: rKC))
    (lmKC : K.lookup fmKC = some ⟨ocmKC, odmKC, .func (PySem.W.fnOf "counted" "Counter.counted" (defArgs sKC) (defBody sKC) (defScope sKC) .none kVmKC dcmKC pmmKC anmKC cdmKC ctmKC), slmKC⟩)
    (cmKC : PySem.W.codeIn K cdmKC "Counter.counted" = true)
    (kmKC : PySem.W.keepIn K (.ref fmKC) = true)
    (aPKT : PySem.W.findIn K (.ref CC) "total" = some (some (.ref pKT)))
    (gPKT : PySem.W.specialIn K (.ref pKT) "__get__" = some (some (.builtin "property.__get__")))
    (tPKT : PySem.W.takesIn K (.ref pKT) = some true)
    (rcPKT : PySem.W.recIn K pKT "property" = some (.ref fmKT :: rKT))
    (lmKT : K.lookup fmKT = some ⟨ocmKT, odmKT, .func (PySem.W.fnOf "total" "Counter.total" (defArgs sKT) (defBody sKT) (defScope sKT) .none kVmKT dcmKT pmmKT anmKT cdmKT ctmKT), slmKT⟩)
    (cmKT : PySem.W.codeIn K cdmKT "Counter.total" = true)
    (kmKT : PySem.W.keepIn K (.ref fmKT) = true)
    (aKA : PySem.W.findIn K (.ref CC) "add" = some (some (.ref fmKA)))
    (iKA : PySem.W.isFn K (.ref fmKA) = true)
    (lmKA : K.lookup fmKA = some ⟨ocmKA, odmKA, .func (PySem.W.fnOf "add" "Counter.add" (defArgs sKA) (defBody sKA) (defScope sKA) .none kVmKA dcmKA pmmKA anmKA cdmKA ctmKA), slmKA⟩)
    (cmKA : PySem.W.codeIn K cdmKA "Counter.add" = true)
    (kmKA : PySem.W.keepIn K (.ref fmKA) = true)
    (aKP : PySem.W.findIn K (.ref CC) "preview" = some (some (.ref fmKP)))
    (iKP : PySem.W.isFn K (.ref fmKP) = true)
    (lmKP : K.lookup fmKP = some ⟨ocmKP, odmKP, .func (PySem.W.fnOf "preview" "Counter.preview" (defArgs sKP) (defBody sKP) (defScope sKP) .none kVmKP dcmKP pmmKP anmKP cdmKP ctmKP), slmKP⟩)
    (cmKP : PySem.W.codeIn K cdmKP "Counter.preview" = true)
    (kmKP : PySem.W.keepIn K (.ref fmKP) = true)
    (aKK : PySem.W.findIn K (.ref CC) "_keep" = some (some (.ref fmKK)))
    (iKK : PySem.W.isFn K (.ref fmKK) = true)
    (lmKK : K.lookup fmKK = some ⟨ocmKK, odmKK, .func (PySem.W.fnOf "_keep" "Counter._keep" (defArgs sKK) (defBody sKK) (defScope sKK) .none kVmKK dcmKK pmmKK anmKK cdmKK ctmKK), slmKK⟩)
    (cmKK : PySem.W.codeIn K cdmKK "Counter._keep" = true)
    (kmKK : PySem.W.keepIn K (.ref fmKK) = true)
    (z1 : PySem.W.nsIn K mainGlobals "len" = some none)
    (z2 : PySem.W.nsIn K mainGlobals "zip" = some none)
    (z3 : PySem.W.nsIn K mainGlobals "max" = some none)
    (z4 : PySem.W.nsIn K mainGlobals "min" = some none)
    (z5 : PySem.W.nsIn K mainGlobals "abs" = some none)
    (z6 : PySem.W.nsIn K mainGlobals "range" = some none)
    (z7 : PySem.W.nsIn K mainGlobals "sorted" = some none)
    (z8 : PySem.W.nsIn K mainGlobals "tuple" = some none)
    (z9 : PySem.W.nsIn K mainGlobals "list" = some none)
    (z10 : PySem.W.nsIn K mainGlobals "isinstance" = some none)
    (z11 : PySem.W.nsIn K mainGlobals "int" = some none)
    (z12 : PySem.W.nsIn K mainGlobals "repr" = some none)
    (z13 : PySem.W.nsIn K mainGlobals "str" = some none) :
    ∃ fd : FuncData, (∀ (s : Shared) (v : Value), BindsTo s fd ⟨[v], []⟩ [("script", v)]) ∧ ∀ base : Heap, K.In base → base.Ns mainGlobals mg → KW.Kept l.prog w K mg base 9 fa fd ["script"] (E3L.spLaw K) := by
  have e := hfa.symm.trans (PySem.W.mg_of X G a27)
  cases e
  have F1 := fun_mk (st := sCont) l1 c1 k1
  have F2 := fun_mk (st := sRng) l2 c2 k2
  have F3 := fun_mk (st := sTP) l3 c3 k3
  have F4 := fun_mk (st := sLO) l4 c4 k4
  have F5 := fun_mk (st := sBtw) l5 c5 k5
  have F6 := fun_mk (st := sSw) l6 c6 k6
  have F7 := fun_mk (st := sCh) l7 c7 k7
  have F8 := fun_mk (st := sMT) l8 c8 k8
  have F9 := fun_mk (st := sPB) l9 c9 k9
  have F10 := fun_mk (st := sCo) l10 c10 k10
  have F11 := fun_mk (st := sCR) l11 c11 k11
  have F12 := fun_mk (st := sPRw) l12 c12 k12
  have F13 := fun_mk (st := BO.sPI) l13 c13 k13
  have F14 := fun_mk (st := sPT) l14 c14 k14
  have F15 := fun_mk (st := sFeed) l15 c15 k15
  have F16 := fun_mk (st := sTake) l16 c16 k16
  have F17 := fun_mk (st := sPick) l17 c17 k17
  have F18 := fun_mk (st := sLoad) l18 c18 k18
  have F19 := fun_mk (st := sLP) l19 c19 k19
  have F20 := fun_mk (st := sLR) l20 c20 k20
  have F21 := fun_mk (st := sLH) l21 c21 k21
  have F22 := fun_mk (st := sPl) l22 c22 k22
  have F23 := fun_mk (st := sCt) l23 c23 k23
  have F24 := fun_mk (st := E3T.sAD) l24 c24 k24
  have F25 := fun_mk (st := E3T.sCL) l25 c25 k25
  have F26 := fun_mk (st := E3T.sSE) l26 c26 k26
  have F27 := fun_mk (st := E3T.sLaw) l27 c27 k27
  have FmI := fun_mk (st := sInit) lmI cmI kmI
  have FmO := fun_mk (st := sOf) lmO cmO kmO
  have FmC := fun_mk (st := sPC) lmC cmC kmC
  have FmR := fun_mk (st := sPR) lmR cmR kmR
  have FmE := fun_mk (st := sPH) lmE cmE kmE
  have FmG := fun_mk (st := sPG) lmG cmG kmG
  have FmQ := fun_mk (st := QL.sEQ) lmQ cmQ kmQ
  have FmS := fun_mk (st := WN.sST) lmS cmS kmS
  have FmKI := fun_mk (st := sKI) lmKI cmKI kmKI
  have FmKC := fun_mk (st := sKC) lmKC cmKC kmKC
  have FmKT := fun_mk (st := sKT) lmKT cmKT kmKT
  have FmKA := fun_mk (st := sKA) lmKA cmKA kmKA
  have FmKP := fun_mk (st := sKP) lmKP cmKP kmKP
  have FmKK := fun_mk (st := sKK) lmKK cmKK kmKK
  have b1 := F1.binds (ps := ["outer", "inner"]) fun _ _ _ _ _ _ us hl => match us, hl with | [_, _], _ => rfl
  have b2 := F2.binds (ps := ["one", "other"]) fun _ _ _ _ _ _ us hl => match us, hl with | [_, _], _ => rfl
  have b3 := F3.binds (ps := ["load"]) fun _ _ _ _ _ _ us hl => match us, hl with | [_], _ => rfl
  have b4 := F4.binds (ps := ["points", "reading"]) fun _ _ _ _ _ _ us hl => match us, hl with | [_, _], _ => rfl
  have b5 := F5.binds (ps := ["reading", "before", "after"]) fun _ _ _ _ _ _ us hl => match us, hl with | [_, _, _], _ => rfl
  have b6 := F6.binds (ps := ["load"]) fun _ _ _ _ _ _ us hl => match us, hl with | [_], _ => rfl
  have b7 := F7.binds (ps := ["load", "low", "high"]) fun _ _ _ _ _ _ us hl => match us, hl with | [_, _, _], _ => rfl
  have b8 := F8.binds (ps := ["points", "place"]) fun _ _ _ _ _ _ us hl => match us, hl with | [_, _], _ => rfl
  have b9 := F9.binds (ps := ["rest", "reading"]) fun _ _ _ _ _ _ us hl => match us, hl with | [_, _], _ => rfl
  have b10 := F10.binds (ps := ["load"]) fun _ _ _ _ _ _ us hl => match us, hl with | [_], _ => rfl
  have b11 := F11.binds (ps := ["cycles"]) fun _ _ _ _ _ _ us hl => match us, hl with | [_], _ => rfl
  have b12 := F12.binds (ps := ["points"]) fun _ _ _ _ _ _ us hl => match us, hl with | [_], _ => rfl
  have b13 := F13.binds (ps := ["row", "value"]) fun _ _ _ _ _ _ us hl => match us, hl with | [_, _], _ => rfl
  have b14 := F14.binds (ps := ["row", "value"]) fun _ _ _ _ _ _ us hl => match us, hl with | [_, _], _ => rfl
  have b15 := F15.binds (ps := ["script", "k"]) fun _ _ _ _ _ _ us hl => match us, hl with | [_, _], _ => rfl
  have b16 := F16.binds (ps := ["feed", "many"]) fun _ _ _ _ _ _ us hl => match us, hl with | [_, _], _ => rfl
  have b17 := F17.binds (ps := ["feed", "some"]) fun _ _ _ _ _ _ us hl => match us, hl with | [_, _], _ => rfl
  have b18 := F18.binds (ps := ["feed", "most"]) fun _ _ _ _ _ _ us hl => match us, hl with | [_, _], _ => rfl
  have b19 := F19.binds (ps := ["load"]) fun _ _ _ _ _ _ us hl => match us, hl with | [_], _ => rfl
  have b20 := F20.binds (ps := ["one", "other"]) fun _ _ _ _ _ _ us hl => match us, hl with | [_, _], _ => rfl
  have b21 := F21.binds (ps := ["outer", "inner"]) fun _ _ _ _ _ _ us hl => match us, hl with | [_, _], _ => rfl
  have b22 := F22.binds (ps := ["points"]) fun _ _ _ _ _ _ us hl => match us, hl with | [_], _ => rfl
  have b23 := F23.binds (ps := ["feed", "load"]) fun _ _ _ _ _ _ us hl => match us, hl with | [_, _], _ => rfl
  have b24 := F24.binds (ps := ["counter", "some"]) fun _ _ _ _ _ _ us hl => match us, hl with | [_, _], _ => rfl
  have b25 := F25.binds (ps := ["feed", "done", "reading"]) fun _ _ _ _ _ _ us hl => match us, hl with | [_, _, _], _ => rfl
  have b26 := F26.binds (ps := ["feed"]) fun _ _ _ _ _ _ us hl => match us, hl with | [_], _ => rfl
  have bmI := FmI.binds (ps := ["self", "cycles", "rest"]) fun _ _ _ _ _ _ us hl => match us, hl with | [_, _, _], _ => rfl
  have bmO := FmO.binds (ps := ["cls", "load"]) fun _ _ _ _ _ _ us hl => match us, hl with | [_, _], _ => rfl
  have bmC := FmC.binds (ps := ["self"]) fun _ _ _ _ _ _ us hl => match us, hl with | [_], _ => rfl
  have bmR := FmR.binds (ps := ["self"]) fun _ _ _ _ _ _ us hl => match us, hl with | [_], _ => rfl
  have bmE := FmE.binds (ps := ["self"]) fun _ _ _ _ _ _ us hl => match us, hl with | [_], _ => rfl
  have bmG := FmG.binds (ps := ["self", "low", "high"]) fun _ _ _ _ _ _ us hl => match us, hl with | [_, _, _], _ => rfl
  have bmQ := FmQ.binds (ps := ["self", "other"]) fun _ _ _ _ _ _ us hl => match us, hl with | [_, _], _ => rfl
  have bmS := FmS.binds (ps := ["self"]) fun _ _ _ _ _ _ us hl => match us, hl with | [_], _ => rfl
  have bmKI := FmKI.binds (ps := ["self"]) fun _ _ _ _ _ _ us hl => match us, hl with | [_], _ => rfl
  have bmKC := FmKC.binds (ps := ["self"]) fun _ _ _ _ _ _ us hl => match us, hl with | [_], _ => rfl
  have bmKT := FmKT.binds (ps := ["self"]) fun _ _ _ _ _ _ us hl => match us, hl with | [_], _ => rfl
  have bmKP := FmKP.binds (ps := ["self", "reading"]) fun _ _ _ _ _ _ us hl => match us, hl with | [_, _], _ => rfl
  have bmKK := FmKK.binds (ps := ["self", "cycles"]) fun _ _ _ _ _ _ us hl => match us, hl with | [_, _], _ => rfl
  have T : E3T.Txt K mg f1 f2 f3 f4 f5 f6 f7 f8 f9 f10 f11 f12 f13 f14 f15 f16 f17 f18 f19 f20 f21 f22 f23 f24 f25 f26 C fmI pO fmO pC fmC pR fmR pE fmE fmG fmQ fmS CC fmKI pKC fmKC pKT fmKT fmKA fmKP fmKK _ _ _ _ _ _ _ _ _ _ _ _ _ _ _ _ _ _ _ _ _ _ _ _ _ _ _ _ _ _ _ _ _ _ _ _ _ _ _ _ := ⟨F1, PySem.W.mg_of X G a1, k1, b1, F2, PySem.W.mg_of X G a2, k2, b2, F3, PySem.W.mg_of X G a3, k3, b3, F4, PySem.W.mg_of X G a4, k4, b4, F5, PySem.W.mg_of X G a5, k5, b5, F6, PySem.W.mg_of X G a6, k6, b6, F7, PySem.W.mg_of X G a7, k7, b7, F8, PySem.W.mg_of X G a8, k8, b8, F9, PySem.W.mg_of X G a9, k9, b9, F10, PySem.W.mg_of X G a10, k10, b10, F11, PySem.W.mg_of X G a11, k11, b11, F12, PySem.W.mg_of X G a12, k12, b12, F13, PySem.W.mg_of X G a13, k13, b13, F14, PySem.W.mg_of X G a14, k14, b14, F15, PySem.W.mg_of X G a15, k15, b15, F16, PySem.W.mg_of X G a16, k16, b16, F17, PySem.W.mg_of X G a17, k17, b17, F18, PySem.W.mg_of X G a18, k18, b18, F19, PySem.W.mg_of X G a19, k19, b19, F20, PySem.W.mg_of X G a20, k20, b20, F21, PySem.W.mg_of X G a21, k21, b21, F22, PySem.W.mg_of X G a22, k22, b22, F23, PySem.W.mg_of X G a23, k23, b23, F24, PySem.W.mg_of X G a24, k24, b24, F25, PySem.W.mg_of X G a25, k25, b25, F26, PySem.W.mg_of X G a26, k26, b26, PySem.W.mg_of X G aC, ⟨⟨pg, hd, po, sa⟩, na0, na1⟩, ⟨mk, aI, iI, kc⟩, FmI, bmI, ⟨rd, ga⟩, ⟨aO, ⟨_, rcO⟩, fiO⟩, FmO, bmO, ⟨aPC, gPC, tPC, ⟨_, rcPC⟩⟩, FmC, bmC, ⟨aPR, gPR, tPR, ⟨_, rcPR⟩⟩, FmR, bmR, ⟨aPE, gPE, tPE, ⟨_, rcPE⟩⟩, FmE, bmE, ⟨aG, iG, kmG⟩, FmG, bmG, ⟨⟨pg, hd, po, sa⟩, iha, ihn, iht, ihm, if_pos (beq_self_eq_true _)⟩, aQ, iQ, ihm, ne, FmQ, bmQ, aS, iS, FmS, bmS, ⟨_, PySem.W.mg_of X G aN, rN⟩, PySem.W.mg_of X G aCK, ⟨⟨pgK, hdK, poK, saK⟩, na0K, na1K, na2K⟩, ⟨mkK, aIK, iIK, kcK⟩, FmKI, bmKI, ⟨aPKC, gPKC, tPKC, ⟨_, rcPKC⟩⟩, FmKC, bmKC, ⟨aPKT, gPKT, tPKT, ⟨_, rcPKT⟩⟩, FmKT, bmKT, ⟨aKA, iKA, kmKA⟩, FmKA, ⟨aKP, iKP, kmKP⟩, FmKP, bmKP, ⟨aKK, iKK, kmKK⟩, FmKK, bmKK, PySem.W.mg_none_of X G z1, PySem.W.mg_none_of X G z2, PySem.W.mg_none_of X G z3, PySem.W.mg_none_of X G z4, PySem.W.mg_none_of X G z5, PySem.W.mg_none_of X G z6, PySem.W.mg_none_of X G z7, PySem.W.mg_none_of X G z8, PySem.W.mg_none_of X G z9, PySem.W.mg_none_of X G z10, PySem.W.mg_none_of X G z11, PySem.W.mg_none_of X G z12, PySem.W.mg_none_of X G z13⟩
  exact ⟨PySem.W.fnOf "law" "law" (defArgs E3T.sLaw) (defBody E3T.sLaw) (defScope E3T.sLaw) .none kV27 dc27 pm27 an27 cd27 ct27, fun s v => .of_eq rfl, fun base _ _ => E3L.ok_law F27 T⟩
end E3E
open PySem PySem.W PyProof.Rows
set_option maxRecDepth 100000 in
set_option maxHeartbeats 0 in
theorem PySem.Challenge.cw_wearswings_k83_counters_holds : PySem.Challenge.rw_wearswings_k83_counters.Holds := by
  w_on; o_law; k_head; (case hw => w_witness2)
  k_fill
  refine KW.walk_kept (l := PySem.Challenge.rw_wearswings_k83_counters) (n := 63) (k := 9) (x := "script") (sp := E3L.spLaw) rfl (by decide) rfl ⟨rfl, by decide, by decide⟩ (fun w h Y => PySem.W.kIn_of Y) ?F (fun K H a ns hl _ hS => ⟨a, ns, rfl, hS, hl, fun _ => rfl⟩)
  case F =>
    intro w mg fa h KX G hmg
    refine' E3E.all_mk KX G hmg ?a1 ?l1 ?c1 ?k1 ?a2 ?l2 ?c2 ?k2 ?a3 ?l3 ?c3 ?k3 ?a4 ?l4 ?c4 ?k4 ?a5 ?l5 ?c5 ?k5 ?a6 ?l6 ?c6 ?k6 ?a7 ?l7 ?c7 ?k7 ?a8 ?l8 ?c8 ?k8 ?a9 ?l9 ?c9 ?k9 ?a10 ?l10 ?c10 ?k10 ?a11 ?l11 ?c11 ?k11 ?a12 ?l12 ?c12 ?k12 ?a13 ?l13 ?c13 ?k13 ?a14 ?l14 ?c14 ?k14 ?a15 ?l15 ?c15 ?k15 ?a16 ?l16 ?c16 ?k16 ?a17 ?l17 ?c17 ?k17 ?a18 ?l18 ?c18 ?k18 ?a19 ?l19 ?c19 ?k19 ?a20 ?l20 ?c20 ?k20 ?a21 ?l21 ?c21 ?k21 ?a22 ?l22 ?c22 ?k22 ?a23 ?l23 ?c23 ?k23 ?a24 ?l24 ?c24 ?k24 ?a25 ?l25 ?c25 ?k25 ?a26 ?l26 ?c26 ?k26 ?a27 ?l27 ?c27 ?k27 ?aC ?pg ?hd ?po ?sa ?na0 ?na1 ?mk ?kc ?aI ?iI ?lmI ?cmI ?kmI ?rd ?ga ?aO ?rcO ?fiO ?lmO ?cmO ?kmO ?aPC ?gPC ?tPC ?rcPC ?lmC ?cmC ?kmC ?aPR ?gPR ?tPR ?rcPR ?lmR ?cmR ?kmR ?aPE ?gPE ?tPE ?rcPE ?lmE ?cmE ?kmE ?aG ?iG ?lmG ?cmG ?kmG ?iha ?ihn ?iht ?ihm ?aQ ?iQ ?lmQ ?cmQ ?kmQ ?ne ?aS ?iS ?lmS ?cmS ?kmS ?aN ?rN ?aCK ?pgK ?hdK ?poK ?saK ?na0K ?na1K ?na2K ?mkK ?kcK ?aIK ?iIK ?lmKI ?cmKI ?kmKI ?aPKC ?gPKC ?tPKC ?rcPKC ?lmKC ?cmKC ?kmKC ?aPKT ?gPKT ?tPKT ?rcPKT ?lmKT ?cmKT ?kmKT ?aKA ?iKA ?lmKA ?cmKA ?kmKA ?aKP ?iKP ?lmKP ?cmKP ?kmKP ?aKK ?iKK ?lmKK ?cmKK ?kmKK ?z1 ?z2 ?z3 ?z4 ?z5 ?z6 ?z7 ?z8 ?z9 ?z10 ?z11 ?z12 ?z13
    (case a1 => k_is)
    (case l1 => k_is)
    (case c1 => k_is)
    (case k1 => k_is)
    (case a2 => k_is)
    (case l2 => k_is)
    (case c2 => k_is)
    (case k2 => k_is)
    (case a3 => k_is)
    (case l3 => k_is)
    (case c3 => k_is)
    (case k3 => k_is)
    (case a4 => k_is)
    (case l4 => k_is)
    (case c4 => k_is)
    (case k4 => k_is)
    (case a5 => k_is)
    (case l5 => k_is)
    (case c5 => k_is)
    (case k5 => k_is)
    (case a6 => k_is)
    (case l6 => k_is)
    (case c6 => k_is)
    (case k6 => k_is)
    (case a7 => k_is)
    (case l7 => k_is)
    (case c7 => k_is)
    (case k7 => k_is)
    (case a8 => k_is)
    (case l8 => k_is)
    (case c8 => k_is)
    (case k8 => k_is)
    (case a9 => k_is)
    (case l9 => k_is)
    (case c9 => k_is)
    (case k9 => k_is)
    (case a10 => k_is)
    (case l10 => k_is)
    (case c10 => k_is)
    (case k10 => k_is)
    (case a11 => k_is)
    (case l11 => k_is)
    (case c11 => k_is)
    (case k11 => k_is)
    (case a12 => k_is)
    (case l12 => k_is)
    (case c12 => k_is)
    (case k12 => k_is)
    (case a13 => k_is)
    (case l13 => k_is)
    (case c13 => k_is)
    (case k13 => k_is)
    (case a14 => k_is)
    (case l14 => k_is)
    (case c14 => k_is)
    (case k14 => k_is)
    (case a15 => k_is)
    (case l15 => k_is)
    (case c15 => k_is)
    (case k15 => k_is)
    (case a16 => k_is)
    (case l16 => k_is)
    (case c16 => k_is)
    (case k16 => k_is)
    (case a17 => k_is)
    (case l17 => k_is)
    (case c17 => k_is)
    (case k17 => k_is)
    (case a18 => k_is)
    (case l18 => k_is)
    (case c18 => k_is)
    (case k18 => k_is)
    (case a19 => k_is)
    (case l19 => k_is)
    (case c19 => k_is)
    (case k19 => k_is)
    (case a20 => k_is)
    (case l20 => k_is)
    (case c20 => k_is)
    (case k20 => k_is)
    (case a21 => k_is)
    (case l21 => k_is)
    (case c21 => k_is)
    (case k21 => k_is)
    (case a22 => k_is)
    (case l22 => k_is)
    (case c22 => k_is)
    (case k22 => k_is)
    (case a23 => k_is)
    (case l23 => k_is)
    (case c23 => k_is)
    (case k23 => k_is)
    (case a24 => k_is)
    (case l24 => k_is)
    (case c24 => k_is)
    (case k24 => k_is)
    (case a25 => k_is)
    (case l25 => k_is)
    (case c25 => k_is)
    (case k25 => k_is)
    (case a26 => k_is)
    (case l26 => k_is)
    (case c26 => k_is)
    (case k26 => k_is)
    (case a27 => k_is)
    (case l27 => k_is)
    (case c27 => k_is)
    (case k27 => k_is)
    (case aC => k_is)
    (case pg => k_is)
    (case hd => k_is)
    (case po => k_is)
    (case sa => k_is)
    (case na0 => k_is)
    (case na1 => k_is)
    (case mk => k_is)
    (case kc => k_is)
    (case aI => k_is)
    (case iI => k_is)
    (case lmI => k_is)
    (case cmI => k_is)
    (case kmI => k_is)
    (case rd => k_is)
    (case ga => k_is)
    (case aO => k_is)
    (case rcO => k_is)
    (case fiO => k_is)
    (case lmO => k_is)
    (case cmO => k_is)
    (case kmO => k_is)
    (case aPC => k_is)
    (case gPC => k_is)
    (case tPC => k_is)
    (case rcPC => k_is)
    (case lmC => k_is)
    (case cmC => k_is)
    (case kmC => k_is)
    (case aPR => k_is)
    (case gPR => k_is)
    (case tPR => k_is)
    (case rcPR => k_is)
    (case lmR => k_is)
    (case cmR => k_is)
    (case kmR => k_is)
    (case aPE => k_is)
    (case gPE => k_is)
    (case tPE => k_is)
    (case rcPE => k_is)
    (case lmE => k_is)
    (case cmE => k_is)
    (case kmE => k_is)
    (case aG => k_is)
    (case iG => k_is)
    (case lmG => k_is)
    (case cmG => k_is)
    (case kmG => k_is)
    (case iha => k_is)
    (case ihn => k_is)
    (case iht => k_is)
    (case ihm => k_is)
    (case aQ => k_is)
    (case iQ => k_is)
    (case lmQ => k_is)
    (case cmQ => k_is)
    (case kmQ => k_is)
    (case ne => k_is)
    (case aS => k_is)
    (case iS => k_is)
    (case lmS => k_is)
    (case cmS => k_is)
    (case kmS => k_is)
    (case aN => k_is)
    (case rN => exact ⟨_, rfl⟩)
    (case aCK => k_is)
    (case pgK => k_is)
    (case hdK => k_is)
    (case poK => k_is)
    (case saK => k_is)
    (case na0K => k_is)
    (case na1K => k_is)
    (case na2K => k_is)
    (case mkK => k_is)
    (case kcK => k_is)
    (case aIK => k_is)
    (case iIK => k_is)
    (case lmKI => k_is)
    (case cmKI => k_is)
    (case kmKI => k_is)
    (case aPKC => k_is)
    (case gPKC => k_is)
    (case tPKC => k_is)
    (case rcPKC => k_is)
    (case lmKC => k_is)
    (case cmKC => k_is)
    (case kmKC => k_is)
    (case aPKT => k_is)
    (case gPKT => k_is)
    (case tPKT => k_is)
    (case rcPKT => k_is)
    (case lmKT => k_is)
    (case cmKT => k_is)
    (case kmKT => k_is)
    (case aKA => k_is)
    (case iKA => k_is)
    (case lmKA => k_is)
    (case cmKA => k_is)
    (case kmKA => k_is)
    (case aKP => k_is)
    (case iKP => k_is)
    (case lmKP => k_is)
    (case cmKP => k_is)
    (case kmKP => k_is)
    (case aKK => k_is)
    (case iKK => k_is)
    (case lmKK => k_is)
    (case cmKK => k_is)
    (case kmKK => k_is)
    (case z1 => k_is)
    (case z2 => k_is)
    (case z3 => k_is)
    (case z4 => k_is)
    (case z5 => k_is)
    (case z6 => k_is)
    (case z7 => k_is)
    (case z8 => k_is)
    (case z9 => k_is)
    (case z10 => k_is)
    (case z11 => k_is)
    (case z12 => k_is)
    (case z13 => k_is)

