import PyProof.Rows.All
import Wide.All
import OpenK.AllK
import Wide.FinOn
import HandS.ForMost
import HandS.Flow
import HandS.OwnEq
import HandS.More
import HandS.DictComp
import HandS.List
import KE.KEqDict
import KE.KDictKeyed
import KE.KRevSl
import PyProof.InstNe
import HandS.IsInst
import HandS.SortRule
import HandS.Property
import HandS.ClsMeth
import HandS.Star
import HandS.Codes
import HandS.Strs
import HandS.SetFor
import HandS.RaiseMore
import HandS.Wide
import HandS.Style
import HandS.Walk
import HandS.Zip
import HandS.TupAny
import HandS.Conv
import HandS.Comp
import HandS.Text
import HandS.Defaults
import HandS.TupMul
import PySem.Challenge.RW_wearswings_k10_known_counts
set_option Elab.async false
set_option linter.all false
set_option maxRecDepth 100000
set_option maxHeartbeats 16000000
/-! del xs[-3:-1] of a list of at least three -/
namespace DS
open PySem PySem.Spec PyProof.Rows L2
def sel (start stop step : Int) (i : Nat) : Bool :=
  if step > 0 then start ≤ i && i < stop && (i - start) % step == 0 else stop < i && i ≤ start && (start - i) % (-step) == 0
theorem sel_iff (a c : Int) (i : Nat) : sel a c 1 i = decide (a ≤ i ∧ (i : Int) < c) := by
  unfold sel
  rw [if_pos (by decide)]
  have e : ((((i : Int) - a) % 1) == 0) = true := by rw [Int.emod_one]; rfl
  rw [e, Bool.and_true]
  by_cases h1 : a ≤ (i : Int) <;> by_cases h2 : (i : Int) < c <;> simp [h1, h2]
def cutOut (a c : Int) (xs : Array Value) : Array Value := (xs.toList.zipIdx.filterMap fun (x, k) => if sel a c 1 k then none else some x).toArray
theorem keep_all {a c : Int} : ∀ (l : List Value) (s : Nat), ((s + l.length : Nat) : Int) ≤ a → (l.zipIdx s).filterMap (fun (x, k) => if sel a c 1 k then none else some x) = l
  | [], _, _ => rfl
  | x :: l, s, h => by
    rw [List.zipIdx_cons, List.filterMap_cons]
    have e : sel a c 1 s = false := by rw [sel_iff]; exact decide_eq_false (by simp only [List.length_cons] at h; omega)
    have ih := keep_all (a := a) (c := c) l (s + 1) (by simp only [List.length_cons] at h; omega)
    simp only [e, Bool.false_eq_true, if_false]
    rw [ih]
theorem cut_three (pre : List Value) (x y z : Value) : cutOut ((pre.length : Nat) : Int) (((pre.length + 2 : Nat)) : Int) (pre ++ [x, y, z]).toArray = (pre ++ [z]).toArray := by
  unfold cutOut
  congr 1
  show ((pre ++ [x, y, z]).zipIdx.filterMap _) = _
  rw [List.zipIdx_append, List.filterMap_append, keep_all pre 0 (by omega)]
  congr 1
  have e1 : sel ((pre.length : Nat) : Int) (((pre.length + 2 : Nat)) : Int) 1 pre.length = true := by rw [sel_iff]; exact decide_eq_true (by omega)
  have e2 : sel ((pre.length : Nat) : Int) (((pre.length + 2 : Nat)) : Int) 1 (pre.length + 1) = true := by rw [sel_iff]; exact decide_eq_true (by omega)
  have e3 : sel ((pre.length : Nat) : Int) (((pre.length + 2 : Nat)) : Int) 1 (pre.length + 1 + 1) = false := by rw [sel_iff]; exact decide_eq_false (by omega)
  simp only [Nat.zero_add, List.zipIdx_cons, List.zipIdx_nil, List.filterMap_cons, List.filterMap_nil, e1, e2, e3, if_true, Bool.false_eq_true, if_false]
theorem bounds31 (n : Nat) : sliceBounds (some (-3)) (some (-1)) none (n + 3) = (((n : Nat) : Int), ((n + 2 : Nat) : Int), 1) := by
  simp only [sliceBounds, Option.getD_none]
  have h1 : (-3 : Int) < 0 := by decide
  have h2 : (-1 : Int) < 0 := by decide
  simp only [h1, h2, if_true, show (1 : Int) > 0 by decide]
  congr 1
  · omega
  · congr 1; omega
section
variable {prog : Program} {w : World} {A : Around} {E : Value → Shared → Prop} {s : Shared}
theorem del31 {l sl : Addr} {its : Array Value} {n : Nat} {vl vu : Value} {Q : Unit → Shared → Prop} (e : s.heap.get? l = some { cls := .type "list", data := .seq its n }) (hs : s.heap.IsSliceOf sl vl vu .none)
    (pl : IsPart vl (some (-3))) (pu : IsPart vu (some (-1))) (m : Nat) (hm : its.size = m + 3) (hz : its.size ≤ sizeLine)
    (h : Q () { s with heap := s.heap.update l (Obj.mapSeq (cutOut (m : Int) ((m + 2 : Nat) : Int))) }) : wpAny (model prog w) A (delItem (.ref l) (.ref sl)) Q E s := by
  have hl : s.heap.IsList l its := PySem.IsL.isList e
  obtain ⟨os, hos, hcs, hds⟩ := id hs
  have hT : s.TypeIs (.ref sl) "slice" := ⟨os, hos, hcs⟩
  have hst : ¬ ((rawPart none == rawInt 0) = true) := Bool.false_ne_true
  refine wpAny_delItem_slot hl.typeIs (by decide) F.slot_list_delitem (wpAny_call_entry F.slot_list_delitem hl.typeIs F.entry_list_delitem ?_ (F.args_list_delitem_2 _ _))
  unfold Builtin.«list.__delitem__»
  refine wpAny_bind (wpAny_of_eq (a := (Value.ref l, [Value.ref sl])) (by first | rfl | kernel_rfl) ?_)
  show wpAny _ _ (Builtin.List.listSubscript? (.ref sl) >>= _) _ _ s
  unfold Builtin.List.listSubscript?
  refine wpAny_bind (wpAny_bind (wpAny_specialOf hT slice_no_index ?_))
  simp only [Option.isNone_none, if_true]
  refine wpAny_pure ?_
  show wpAny _ _ (typeOf (.ref sl) >>= _) _ _ s
  refine wpAny_bind (wpAny_typeOf hT ?_)
  first
    | rw [if_neg (by decide)]
    | refine PySem.W.KFB.if_not (by decide) ?_
  rw [listSliceParts_eq]
  refine wpAny_bind (wpAny_bind (wpAny_field hos hds rfl (wpAny_bind (wpAny_listPart .none ?_))))
  rw [if_neg hst]
  refine wpAny_bind (wpAny_field hos hds rfl (wpAny_bind (wpAny_listPart pl ?_)))
  refine wpAny_bind (wpAny_field hos hds rfl (wpAny_bind (wpAny_listPart pu (wpAny_pure ?_))))
  unfold Builtin.List.listItems
  refine wpAny_bind (wpAny_bind (wpAny_seqItems e rfl (wpAny_pure ?_)))
  rw [hm]
  refine wpAny_bind (wpAny_of_eq ((sliceIndices_raw (some (-3)) (some (-1)) none (m + 3) (by simp)).trans (congrArg (pure : Int × Int × Int → Sem (Int × Int × Int)) (bounds31 m))) ?_)
  refine wpAny_bind (wpAny_rule ?_)
  have hz2 : (cutOut (m : Int) ((m + 2 : Nat) : Int) its).size ≤ sizeLine + 1 := by
    unfold cutOut
    rw [List.size_toArray]
    refine Nat.le_trans (List.length_filterMap_le _ _) ?_
    rw [List.length_zipIdx, Array.length_toList]
    omega
  show wpAny _ _ (updateSeq l (cutOut (m : Int) ((m + 2 : Nat) : Int)) >>= _) _ _ s
  refine wpAny_bind (wpAny_updateSeq (hz := hz) (_hz' := hz2) e rfl ?_)
  refine wpAny_bind (wpAny_letGo ?_)
  first
    | exact wpAny_pure ⟨.none, rfl, h⟩
    | exact wpAny_pure h
end
theorem split3 : ∀ {pre : List V} {x1 y1 z1 : V} {its : List Value}, Vals (pre ++ [x1, y1, z1]) its → ∃ ip i1 i2 i3, its = ip ++ [i1, i2, i3] ∧ Vals pre ip ∧ RelV x1 i1 ∧ RelV y1 i2 ∧ RelV z1 i3
  | [], _, _, _, _, .cons r1 (.cons r2 (.cons r3 .nil)) => ⟨[], _, _, _, rfl, .nil, r1, r2, r3⟩
  | _ :: pre, _, _, _, _, .cons r0 t => by
    obtain ⟨ip, i1, i2, i3, e, rp, h⟩ := split3 (pre := pre) t
    exact ⟨_ :: ip, i1, i2, i3, by rw [e]; rfl, .cons r0 rp, h⟩
section
variable {X : Cx}
/-- del xs[-3:-1] of a list of at least three -/
def tDel31 (to : TE) (tl th : TO) : TS := fun D σ H => to σ H fun x H1 => tl σ H1 fun l H2 => th σ H2 fun u H3 => l = some (-3) ∧ u = some (-1) ∧ ∃ (a : Addr) (pre : List V) (x1 y1 z1 : V), x = .ref a ∧ H3 a = some (.lst (pre ++ [x1, y1, z1])) ∧
  D.nx σ (upd H3 a (.lst (pre ++ [z1])))
theorem ps_del31 {o : Expr} {lo hi : Option Expr} {to : TE} {tl th : TO} {tpos p2 pos : Pos} (ho : PE X o to) (hl : PO X lo tl) (hu : PO X hi th) : PS X (.Delete [.Subscript o (.Slice lo hi none p2) tpos] pos) (tDel31 to tl th) := by
  refine ⟨fun pins s σ H D I h => ?_⟩
  refine wpAny_Delete (wpAny_deleteEach_cons (wpAny_delete_Subscript (thn (ho.run pins s σ H _ I h) fun u s1 ⟨x, H1, I1, rx, q1⟩ => ?_)))
  refine wpAny_Slice (thn (hl.run pins s1 σ H1 _ I1 q1) fun vl s2 ⟨l, H2, I2, pl, q2⟩ => thn (hu.run pins s2 σ H2 _ I2 q2) fun vu s3 ⟨w, H3, I3, pu, q3⟩ => ?_)
  rw [evalPart_none]
  refine wpAny_pure ?_
  obtain ⟨e1, e2, a, pre, x1, y1, z1, rfl, hH, q⟩ := q3
  subst e1 e2
  cases (show u = Value.ref a from rx)
  have I4 : Inv X pins σ H3 { s3 with heap := s3.heap.push { cls := .type "slice", data := .fields #[vl, vu, .none] } } := I3.kept (t' := s3.toks) fun b o e => Heap.get?_push_of_some _ e
  obtain ⟨z, its, n, r, hlen, e⟩ := I4.lstM hH
  have hn : its.length = pre.length + 3 := by rw [← hlen]; simp
  obtain ⟨ip, i1, i2, i3, ei, rp, r1, r2, r3⟩ : ∃ ip i1 i2 i3, its = ip ++ [i1, i2, i3] ∧ Vals pre ip ∧ RelV x1 i1 ∧ RelV y1 i2 ∧ RelV z1 i3 := split3 r
  subst ei
  have hp : ip.length = pre.length := rp.length.symm
  refine del31 e (Heap.IsSliceOf.new ..) pl pu pre.length (by rw [List.size_toArray]; exact hn) (by rw [List.size_toArray, ← hlen]; exact z) (wpAny_deleteEach_nil ⟨σ, _, I4.lset (ys := pre ++ [z1]) (its' := ip ++ [i3]) (t' := s3.toks) hH e ?_ (rp.append (.cons r3 .nil)) ?_, q⟩)
  · rw [← hp]
    exact cut_three ip i1 i2 i3
  · have := z
    simp only [List.length_append, List.length_cons, List.length_nil] at this ⊢
    omega
end
end DS

/-! set(xs) of a list of ints, with the order's ledger kept (for sorted behind it) -/
namespace KS
open PySem PySem.Spec PyProof.Rows L2
abbrev leer (w : World) : Obj := { cls := .type "set", dict := none, data := .set #[] 0 (.fresh 0 0 (!w.params.followText "set-order")) }
section
variable {P : Program} {w : World} {A : Around} {E : Value → Shared → Prop} {s : Shared}
/-- what stands behind set's own __init__ -/
abbrev Made (w : World) (s : Shared) (ns : List Int) (Q : Shared → Prop) : Prop :=
  ∀ (g : Heap) (tk c : Nat), SetR w g s.heap.objs.size (fun j => decide (j ∈ ns)) c → c ≤ ns.length → (∀ b o, s.heap.get? b = some o → g.get? b = some o) → Q { s with heap := g, toks := tk }
set_option maxHeartbeats 6400000 in
theorem set_lst {l : Addr} {its : Array Value} (ns : List Int) {Q : Value → Shared → Prop} (hh : A.handled = none) (hl : s.heap.IsList l its) (hit : IntsAre its.toList ns) (hb : ns.length + 1 < scanBound)
    (h : Made w s ns (Q (.ref s.heap.objs.size))) : wpAny (model P w) A (call (.type "set") [.ref l]) Q E s := by
  have hn : its.size = ns.length := by
    rw [← Array.length_toList]; exact IntsAre.length hit
  obtain ⟨c0, t0, hm⟩ := F.called_set.mro
  have k1 := F.called_set.made; have k2 := F.called_set.sub; have k3 := F.called_set.notType; have k4 := F.called_set.canCreate; have k5 := F.typeCall_set_1 (.ref l)
  refine wpAny_call (codeAny_of_tree (show wpAny _ _ (callAny (.type "set") _) _ _ _ from ?_))
  have uu : A.under (.builtin "type.__call__" ⟨[.type "set", .ref l], []⟩) = A.in1 := Around.under_plain (weight_type_call_type "set" [.ref l] []) rfl
  refine wpAny_pure ⟨Code.quiet_builtin _ (by decide +kernel), codeAny_builtin F.entry_type_call ?_⟩
  rw [show A.under (.builtin "type.__call__" { ({ pos := [Value.ref l] } : Args) with pos := .type "set" :: [Value.ref l] }) = A.in1 from uu]
  repeat (any_goals (first | assumption | wp_step))
  have hs0 : (s.heap.push (leer w)).get? s.heap.objs.size = some (leer w) := Heap.get?_push_size _ rfl
  refine codeAny_mono (code_set_led1 (.ref l) (E := E) (Q₁ := fun x s1 => x = .ref s.heap.objs.size ∧ s1 = { s with heap := s.heap.push (leer w) }) ⟨rfl, rfl⟩) fun r1 s1 e1 => ?_
  match r1, e1 with
  | .error _, e1 => exact e1
  | .ok (.next), e1 => exact e1.elim
  | .ok (.brk), e1 => exact e1.elim
  | .ok (.cont), e1 => exact e1.elim
  | .ok (.ret x), e1 =>
    obtain ⟨rfl, rfl⟩ := e1
    have hT : Shared.TypeIs { s with heap := s.heap.push (leer w) } (.ref s.heap.objs.size) "set" := ⟨_, hs0, rfl⟩
    have j1 := F.called_set.init.lookup; have j2 := F.called_set.init.bind (.ref s.heap.objs.size)
    repeat (any_goals (first | assumption | wp_step))
    refine codeAny_mono (codeAny_call_builtin (R := wants (fun v s2 => v = .none ∧ ∃ g tk c, s2 = { s with heap := g, toks := tk } ∧ SetR w g s.heap.objs.size (fun j => decide (j ∈ ns)) c ∧ c ≤ ns.length ∧ ∀ b o, s.heap.get? b = some o → g.get? b = some o) E)
      F.called_set.init.plain F.entry_set_init (check_set_init_1 hT ?_)) fun r2 s2 e2 => ?_
    · obtain ⟨ol, a1, a2, nl, a3⟩ := hl
      obtain ⟨xc, xd, xt, xs⟩ := ol
      simp only at a2 a3
      subst a2 a3
      have a4 : (s.heap.push (leer w)).get? l = some { cls := .type "list", dict := xd, data := .seq its nl, slots := xs } := Heap.get?_push_of_some _ a1
      have b1 := F.sub_list_set; have b2 := F.sub_list_frozenset; have b3 : (Value.type "list" == Value.type "dict") = false := by decide
      have a5 : (s.heap.push (leer w)).IsList l its := ⟨_, a4, rfl, nl, rfl⟩
      unfold Builtin.«set.__init__» noKeywords Builtin.Frozenset.updateFrom
      generalize hPI : pyIter = PI
      wp_walk
      subst hPI
      refine wpAny_pyIter_list a5 (wpAny_bind (wpAny_runValue ?_))
      have lt := Heap.lt_size a1
      have sz : (s.heap.push (leer w)).objs.size = s.heap.objs.size + 1 := Heap.size_push ..
      have d1 : l ≠ (s.heap.push (leer w)).objs.size := by rw [sz]; exact Nat.ne_of_lt (Nat.lt_succ_of_lt lt)
      have d2 : s.heap.objs.size ∉ [(s.heap.push (leer w)).objs.size, l] := by
        rw [sz]; intro z; rcases List.mem_cons.mp z with z | z
        · exact absurd z (Nat.ne_of_lt (Nat.lt_succ_self _))
        · exact absurd (List.mem_singleton.mp z) (Nat.ne_of_gt lt)
      have vl : ∀ i v, its[i]? = some v → ∃ (k : Int) (t : Tok), ns[i]? = some k ∧ v = Value.int k t := fun i v e => by
        have hi : i < ns.length := by rw [← hn]; exact (Array.getElem?_eq_some_iff.mp e).1
        obtain ⟨t, et⟩ := IntsAre.int_at hit i v (by rw [Array.getElem?_toList]; exact e)
        exact ⟨ns[i], t, List.getElem?_eq_getElem hi, by rw [et, List.getD_eq_getElem?_getD, List.getElem?_eq_getElem hi]; rfl⟩
      have hq : A.in1.in1.in1.handled = none := by simp [hh]
      refine set_update_ints ((Walks.list hq _ l d1 its).toS) s.heap.objs.size d2 ns hn hb vl (its.size - 0) 0 _ (by omega) (Nat.zero_le _) ⟨⟨_, Heap.get?_push_size _ rfl, rfl, rfl⟩, a5.push _⟩
        ⟨0, Nat.le_refl 0, setR_new_at (Heap.get?_push_of_some _ hs0)⟩ fun s3 c3 mv hc3 R3 => ?_
      obtain ⟨g3, gg, dd, tk3, oo⟩ := s3
      obtain rfl : gg = s.gens := mv.gens
      obtain rfl : dd = s.drawn := mv.drawn
      obtain rfl : oo = s.os := mv.os
      refine (show wpAny _ _ _ _ _ _ from wpAny_pure (show wpAny _ _ (ret Value.none) _ _ _ from wpAny_pure ⟨rfl, g3, tk3, c3, rfl, R3, by omega, fun b o e => ?_⟩))
      have hb0 := Heap.lt_size e
      exact mv.heap b o (by rw [sz]; intro z; rcases List.mem_cons.mp z with z | z
                            · exact absurd z (Nat.ne_of_lt hb0)
                            · exact absurd (List.mem_singleton.mp z) (Nat.ne_of_lt (Nat.lt_succ_of_lt hb0))) (Heap.get?_push_of_some _ (Heap.get?_push_of_some _ e))
    · match r2, e2 with
      | .error _, e2 => exact e2
      | .ok (.next), e2 => exact e2.elim
      | .ok (.brk), e2 => exact e2.elim
      | .ok (.cont), e2 => exact e2.elim
      | .ok (.ret y), e2 =>
        obtain ⟨rfl, g, tk, c, rfl, R2, hc, hk⟩ := e2
        repeat (any_goals (first | assumption | wp_step))
        exact h _ _ _ R2 hc hk
end
section
variable {X : Cx}
/-- set(xs) of a list of ints -/
def rSetL (w : World) (K : PySem.W.Frag) : List V → Hp → VK → Prop := fun vs H Q => ∃ (a : Addr) (ns : List Int), vs = [V.ref a] ∧ SqL K H a (ns.map V.int) ∧ ns.length ≤ 1000 ∧
  ∀ (p : Addr) (c : Nat), H p = none → c ≤ ns.length → Q (.ref p) (upd H p (SetO w p (fun j => decide (j ∈ ns)) c))
theorem cr_setL (hc : X.calm = true) : CallR X (.type "set") (rSetL X.w X.K) := by
  intro pins s σ H vs us Q I r h
  obtain ⟨a, ns, rfl, hS, hlen, q⟩ := h
  rw [Vals.ref1 r]
  obtain ⟨its, rv, pl, hz⟩ := I.list hS
  refine set_lst ns (I.ok.hd hc) pl.isList (by simpa using ints_of_vals rv) (by unfold scanBound; omega) fun g tk c R hcn k => ?_
  exact ⟨.ref _, _, I.laid (t' := tk) k (Nat.le_refl _) (setO_new R), rfl, q _ c (I.hok.fresh (Nat.le_refl _)) hcn⟩
end
end KS

/-! repr(xs) of a list of ints; a law's def whose body knows that no repr is under way -/
namespace KG
open PySem PySem.Spec PyProof.Rows L2
/-! ### the text of a list of ints -/
def datL (ns : List Int) : PyData := .list (ns.map PyData.int)
def reprL (ns : List Int) : Str := (datL ns).shown
theorem small_log {i : Int} {k : Nat} (h0 : 0 < k) (h : i.natAbs < 2 ^ k) : i.natAbs.log2 < k := PySem.Flt.log2_lt_of h0 h
theorem show_all : ∀ (ns : List Int), (∀ n ∈ ns, n.natAbs < 2 ^ 40) → PyData.showableAll (ns.map PyData.int) = true
  | [], _ => rfl
  | a :: r, h => by
    have h1 : a.natAbs.log2 < 1920 := Nat.lt_of_lt_of_le (small_log (by decide) (h a List.mem_cons_self)) (by decide)
    have h2 := show_all r fun n hn => h n (List.mem_cons_of_mem _ hn)
    simp only [List.map_cons, PyData.showableAll, PyData.showable, h2, h1, decide_true, Bool.and_self]
theorem nodict_all : ∀ (ns : List Int), PyData.hasDictAll (ns.map PyData.int) = false
  | [] => rfl
  | a :: r => by simp only [List.map_cons, PyData.hasDictAll, PyData.hasDict, nodict_all r, Bool.or_self]
theorem depth_all : ∀ (ns : List Int), PyData.depthAll (ns.map PyData.int) ≤ 1
  | [] => Nat.zero_le _
  | a :: r => by
    have := depth_all r
    simp only [List.map_cons, PyData.depthAll, PyData.depth]
    omega
theorem leaves_all : ∀ (ns : List Int), (∀ n ∈ ns, n.natAbs < 10 ^ 12) → PyData.leavesShortAll 13 (ns.map PyData.int) = true
  | [], _ => rfl
  | a :: r, h => by
    have h2 := leaves_all r fun n hn => h n (List.mem_cons_of_mem _ hn)
    have h1 : (PyData.shown (.int a)).length ≤ 13 := by
      have := PySem.int_text_length_le10 (a := a) (k := 12) (by decide) (h a List.mem_cons_self)
      have e : (PyData.shown (.int a)).length = (toString a).length := by
        simp only [PyData.shown]
        exact PySem.ofString_length _
      omega
    simp only [List.map_cons, PyData.leavesShortAll, PyData.leavesShort, h2, Bool.and_true, decide_eq_true_eq]
    exact h1
theorem weight_all : ∀ (ns : List Int), (∀ n ∈ ns, n.natAbs < 2 ^ 39) → PyData.weightAll (ns.map PyData.int) ≤ 60 * ns.length
  | [], _ => Nat.le_refl _
  | a :: r, h => by
    have h1 := weight_all r fun n hn => h n (List.mem_cons_of_mem _ hn)
    have h2 : a.natAbs.log2 < 39 := small_log (by decide) (h a List.mem_cons_self)
    simp only [List.map_cons, PyData.weightAll, PyData.weight, List.length_cons]
    split <;> omega
theorem repr_fits {ns : List Int} (h : ∀ n ∈ ns, n.natAbs < 2 ^ 39) (hl : ns.length ≤ 2000) : (reprL ns).length ≤ sizeLine := by
  refine PyData.shown_fits (B := 13) (by decide) (by decide) ?_ ?_
  · show PyData.leavesShort 13 (.list _) = true
    simp only [PyData.leavesShort, leaves_all ns fun n hn => Nat.lt_trans (h n hn) (by decide)]
  · show PyData.weight (.list _) ≤ _
    have := weight_all ns h
    simp only [PyData.weight]
    omega
theorem reads_all {h : Heap} : ∀ {us : List Value} {ns : List Int}, IntsAre us ns → ReadsAll h us (ns.map PyData.int) []
  | _, _, .nil => .nil
  | _, _, .cons n t r => by
    have z := ReadsAll.cons (Reads.int (h := h) n t) (reads_all r)
    exact z
section
variable {X : Cx}
/-- repr(xs) of a list of ints, while no repr is under way -/
def rReprL (K : PySem.W.Frag) : List V → Hp → VK → Prop := fun vs H Q => ∃ (a : Addr) (ns : List Int), vs = [V.ref a] ∧ SqL K H a (ns.map V.int) ∧ (∀ n ∈ ns, n.natAbs < 2 ^ 39) ∧ ns.length ≤ 2000 ∧ Q (.str (reprL ns)) H
theorem cr_reprL (hg : X.A.guards = some []) (hu : X.A.units + 100 < cLine) : CallR X (.builtin "repr") (rReprL X.K) := by
  intro pins s σ H vs us Q I r h
  obtain ⟨a, ns, rfl, hS, hb, hl, q⟩ := h
  rw [Vals.ref1 r]
  obtain ⟨its, rv, ⟨o, n, ho, hc, hdn, hd⟩, hz⟩ := I.list hS
  have rd : Reads s.heap (.ref a) (datL ns) [a] := .list ho hc hd (reads_all (by simpa using ints_of_vals rv))
  refine repr_of_reads' rd (by show PyData.showable (.list _) = true; simp only [PyData.showable]; exact show_all ns fun m hm => Nat.lt_trans (hb m hm) (by decide)) (PyData.noDict_hsm (by show PyData.hasDict (.list _) = false; simp only [PyData.hasDict]; exact nodict_all ns)) hg
    (by have := depth_all ns; show X.A.units + (PyData.depth (.list _) + 1) < cLine; simp only [PyData.depth]; omega) (fun _ _ e => e) (fun g u tk k => ?_) (repr_fits hb hl)
  exact ⟨.str (reprL ns), H, I.kept k, ⟨u, rfl⟩, q⟩
end
end KG

/-! the def of the law itself, called where no repr is under way -/
namespace KW
open PySem PySem.Spec PyProof.Rows L2
/-- the def at f keeps sp where it is called with no repr under way -/
def Kept (P : Program) (w : World) (K : PySem.W.Frag) (mg : Str → Option Value) (base : Heap) (k : Nat) (f : Addr) (fd : FuncData) (ps : List Str) (sp : Sp) : Prop :=
  ∀ (A : Around) (outer : List Env) (s : Shared) (H : Hp) (args : Args) (us : List Value) (vs : List V) (Q : VK) (E : XK), A.guards = some [] → Room k A → Env0 P w K mg base A outer s H →
    BindsTo s fd args (ps.zip us) → Vals vs us → sp vs H Q E → codeAny (model P w) A (.call (.ref f) args) (CR CX0 outer P w H s Q E) s
section
variable {P : Program} {w : World} {K : PySem.W.Frag} {mg : Str → Option Value} {base : Heap}
theorem kept_of {x qual : Str} {st : Stmt} {f : Addr} {fd : FuncData} {N ps : List Str} {k : Nat} {sp : Sp} (F : Fun K x qual st f fd) (S : FnScope N ps (defScope st)) (len : ∀ vs H Q E, sp vs H Q E → vs.length = ps.length)
    (hb : ∀ (cdv : Value) (A : Around) (outer : List Env) (s : Shared) (H : Hp) (vs : List V) (Q : VK) (E : XK), A.guards = some [] → Room k (A.deeper (envOfC qual (defScope st) s.heap.objs.size f cdv)) → sp vs H Q E →
      ∃ t, PSs (cxOf CX0 P w K mg base N qual (defScope st) f cdv A outer s H E).nox (defBody st) t ∧ t { nx := fun _ H' => Q .non H', rt := Q } (start N vs) H) : Kept P w K mg base (k + 1) f fd ps sp := by
  obtain ⟨oc, od, kV, doc, pm, an, cdv, ct, osl, e1, lk, hcd⟩ := F.ex
  subst e1
  intro A outer s H args us vs Q E hg hr e0 bnd r hsp
  obtain ⟨t, d, q⟩ := hb cdv A outer s H vs Q E hg (hr.deeper _) hsp
  have lv := len _ _ _ _ hsp
  have kin : K.In s.heap := e0.mod.kin.keeps fun b o e => (e0.bs b o e).1
  have kd : ∀ y ∈ ps.zip us, (defScope st).names.lookup y.1 = some .local ∨ ((defScope st).names.lookup y.1 = some .cell ∧ ((cellsFrom (s.heap.objs.size + 1) (defScope st).names []).lookup y.1).isSome = true) := by
    rintro ⟨n, v⟩ hy
    exact (S.par n (List.of_mem_zip hy).1).imp id fun z => ⟨z, PySem.W.cellsFrom_some _ _ _ (.inl z)⟩
  refine codeAny_call_function hr.depth (kin _ _ lk) rfl S.co S.gen rfl (PySem.W.codeRec_of kin hcd) (bnd _ _ _ _ (wpAny_newFunctionEnv_cells S.kind kd fun env he s1 x1 => ?_))
  subst he
  refine ⟨(e0.mod.nolimit.keeps fun b o e => (e0.bs b o e).1).keeps x1.toInCall.keep, codeAny_func (wpAny_mono (d.nox.run [] s1 (start N vs) H _ (inv_start S hr.hd e0 lv r x1) q) (fun fl s2 z => ?_) fun _ _ z => z)⟩
  match fl, z with
  | .ret u, ⟨v, σ2, H2, J, rv, q2⟩ => exact ⟨v, H2, J.os, J.bare, J.base, J.hok, rv, q2⟩
  | .next, ⟨σ2, H2, J, q2⟩ => exact ⟨V.non, H2, J.os, J.bare, J.base, J.hok, rfl, q2⟩
  | .brk, ⟨_, _, _, q2⟩ => exact q2.elim
  | .cont, ⟨_, _, _, q2⟩ => exact q2.elim
/-- the heap that tracks the script alone, or nothing where it is the text's own -/
def hpOf (K : PySem.W.Frag) (a : Addr) (o : Obj) (xs : List V) : Hp := fun b => if b = a ∧ K.lookup a = none then some (.frz o (.lst xs)) else none
theorem hpOf_some {K : PySem.W.Frag} {a b : Addr} {o : Obj} {xs : List V} {u : HO} (e : hpOf K a o xs b = some u) : b = a ∧ K.lookup a = none ∧ u = .frz o (.lst xs) := by
  unfold hpOf at e
  split at e
  · rename_i z
    exact ⟨z.1, z.2, (Option.some.inj e).symm⟩
  · cases e
theorem run_law {mb : Str → Option Value} {k : Nat} {fa a : Addr} {fd : FuncData} {x : Str} {sp : Sp} {s1 : Shared} {vs : List Value} {ns : List Int}
    (kin : K.In s1.heap) (h1 : s1.heap.Ns mainGlobals mg) (h2 : s1.heap.Ns builtinsNs mb) (h3 : ∀ y : Str, y ≠ "__name__" → mb y = bootBuiltins y) (h4 : s1.heap.NoLimit) (h5 : s1.gens = #[])
    (ha : s1.heap.get? a = some { cls := .type "list", data := .seq vs.toArray }) (hi : IntsAre vs ns) (hl : ns.length ≤ sizeLine) (hr : Room k callerA)
    (F : ∀ bs : Heap, K.In bs → bs.Ns mainGlobals mg → Kept P w K mg bs k fa fd [x] sp) (hbd : ∀ (s : Shared) (u : Value), BindsTo s fd ⟨[u], []⟩ [(x, u)])
    (hsp : ∀ H : Hp, Only H → SqL K H a (ns.map V.int) → sp [.ref a] H (fun v _ => v = .bl true) fun _ _ _ => False) :
    codeAny (model P w) callerA (.call (.ref fa) ⟨[.ref a], []⟩) (fun r s' => r = .ok (.ret (.bool true)) ∧ OldK s1.heap s'.heap ∧ s'.os = s1.os ∧ AllBare s'.gens) s1 := by
  have rv := vals_ints hi
  let ob : Obj := { cls := .type "list", data := .seq vs.toArray }
  generalize hH : hpOf K a ob (ns.map V.int) = H
  have hsome : ∀ {b u}, H b = some u → b = a ∧ K.lookup a = none ∧ u = .frz ob (.lst (ns.map V.int)) := fun {b u} e => hpOf_some (by rw [hH]; exact e)
  have hO : Only H := fun b => by
    cases e : H b with
    | none => exact .inl rfl
    | some u => exact .inr ⟨_, _, by rw [(hsome e).2.2]⟩
  have hS : SqL K H a (ns.map V.int) := by
    cases e : K.lookup a with
    | none => exact .inl (.inr ⟨ob, by rw [← hH]; exact if_pos ⟨rfl, e⟩⟩)
    | some o =>
      have e2 := kin a o e
      rw [ha] at e2
      cases e2
      exact .inr ⟨_, vs.toArray, _, e, rfl, rfl, rfl, by rw [List.size_toArray, hi.length]; exact hl, by simpa using rv⟩
  have hok : HOk P w H s1.heap := fun b u e => by
    obtain ⟨rfl, _, rfl⟩ := hsome e
    exact ⟨ha, by rw [List.length_map]; exact hl, vs, _, rv, ha⟩
  have free : ∀ {b : Addr} {o : Obj} {es : Array DictEntry} {ep : Nat}, s1.heap.get? b = some o → o.data = .dict es ep → H b = none := fun {b o es ep} e d => by
    cases z : H b with
    | none => rfl
    | some u =>
      obtain ⟨rfl, _, _⟩ := hsome z
      rw [ha] at e
      cases e
      cases d
  have toB : ∀ {b : Addr} {m : Str → Option Value}, s1.heap.Ns b m → (hidT s1.heap H).Ns b m := fun {b m} ⟨o, es, ep, e, d, r⟩ => ⟨o, es, ep, hidT_get e (free e d), d, r⟩
  have kB : K.In (hidT s1.heap H) := fun b o e => hidT_get (kin b o e) (by
    cases z : H b with
    | none => rfl
    | some u =>
      obtain ⟨rfl, z2, _⟩ := hsome z
      rw [z2] at e
      cases e)
  obtain ⟨mc, m1, m2⟩ := h4
  have e0 : Env0 P w K mg (hidT s1.heap H) callerA [] s1 H := ⟨rfl, ⟨kB, toB h1, ⟨mb, toB h2, h3⟩, ⟨mc, toB m1, m2⟩⟩, fun b o e => of_hidT e, Nat.le_of_eq (hidT_size _ _), trivial, fun b hb => (List.not_mem_nil (show b ∈ ([] : List Addr) from hb)).elim, hok, .of_eq h5⟩
  refine codeAny_mono (F _ kB (toB h1) callerA [] s1 H ⟨[.ref a], []⟩ [.ref a] [.ref a] _ _ rfl hr e0 (hbd s1 (.ref a)) (.cons rfl .nil) (hsp H hO hS)) fun r s2 z => ?_
  match r, z with
  | .error _, z => exact z.elim
  | .ok .next, z => exact z.elim
  | .ok .brk, z => exact z.elim
  | .ok .cont, z => exact z.elim
  | .ok (.ret u), ⟨v, H2, os, bare, un, hok2, rr, q⟩ =>
    have q2 : v = .bl true := q
    subst q2
    obtain rfl : u = Value.bool true := rr
    refine ⟨rfl, OldK.of_keep fun b o e => ?_, os, bare⟩
    cases z : H b with
    | none => exact un.keep b o e z (fun m => (List.not_mem_nil (show b ∈ ([] : List Addr) from m)).elim) (by simp)
    | some u =>
      obtain ⟨_, _, rfl⟩ := hsome z
      have t1 := (hok b _ z).1
      have t2 := (hok2 b _ (un.frzs b ob _ z)).1
      rw [e] at t1
      rw [t2, ← t1]
/-- the end: the law's promise over the written part alone -/
theorem walk_kept {l : PySem.W.OpenLaw} {n k : Nat} {q : Program} {loose : List Str} {XP : (Str → Option Value) → Heap → Prop} {YP : World → Heap → Prop} {d : DefRec} {KK : Params → PySem.W.Frag} {sp : PySem.W.Frag → Sp} {x : Str}
    (hn : l.most = some n) (hn2 : n ≤ sizeLine) (hdf : d.params.defaults = []) (hr : Room k callerA) (hY : ∀ (w : World) (h : Heap), YP w h → (KK w.params).In h)
    (F : ∀ (w : World) (mg : Str → Option Value) (fa : Addr) (h : Heap), (KK w.params).In h → h.Ns mainGlobals mg → mg d.name = some (.ref fa) →
      ∃ fd : FuncData, (∀ (s : Shared) (u : Value), BindsTo s fd ⟨[u], []⟩ [(x, u)]) ∧ ∀ bs : Heap, (KK w.params).In bs → bs.Ns mainGlobals mg → Kept l.prog w (KK w.params) mg bs k fa fd [x] (sp (KK w.params)))
    (hsp : ∀ (K : PySem.W.Frag) (H : Hp) (a : Addr) (ns : List Int), ns.length ≤ n → Only H → SqL K H a (ns.map V.int) → sp K [.ref a] H (fun v _ => v = .bl true) fun _ _ _ => False) :
    PySem.W.WalkO q loose XP YP l.row.toRowW d [] (fun f vs => PySem.call f vs) := by
  refine Att.attach_call hn hdf fun w s0 s1 mg mb fa o pm cd doc a vs ns G Y ho hd hcd hmg hobj hints hlen hg => ?_
  obtain ⟨fd, hb, hF⟩ := F w mg fa _ (hY w _ Y) G.T.g hmg
  exact run_law (hY w _ Y) G.T.g G.T.b G.T.builtins G.T.nolimit hg hobj hints (Nat.le_trans hlen hn2) hr hF hb fun H hO hS => hsp (KK w.params) H a ns hlen hO hS
end
end KW

/-! turning points, as mathematics: the stack's way and the law's way -/
namespace PM
/-- r lies between its neighbours b and a -/
abbrev Btw (r b a : Int) : Prop := (b < r ∧ r < a) ∨ (a < r ∧ r < b)
/-- the stack's way from b, a (a on top) on -/
def tq : Int → Int → List Int → List Int
  | _, a, [] => [a]
  | b, a, r :: l => if a = r then tq b a l else if Btw a b r then tq b r l else a :: tq a r l
def ts : Int → List Int → List Int
  | a, [] => [a]
  | a, r :: l => if a = r then ts a l else a :: tq a r l
def tp : List Int → List Int
  | [] => []
  | x :: l => ts x l
/-- repeated readings once -/
def ddf : Int → List Int → List Int
  | _, [] => []
  | p, x :: l => if x = p then ddf p l else x :: ddf x l
def dd : List Int → List Int
  | [] => []
  | x :: l => x :: ddf x l
/-- the law's way, over readings that differ from their neighbours -/
def lq : Int → Int → List Int → List Int
  | _, c, [] => [c]
  | p, c, d :: l => if (decide (c > p) = decide (c > d)) then c :: lq c d l else lq c d l
def lp : List Int → List Int
  | [] => []
  | [x] => [x]
  | x :: y :: l => x :: lq x y l
theorem tq_lq : ∀ (l : List Int) (b p a : Int), a ≠ b → a ≠ p → (a > b ↔ a > p) → tq b a l = lq p a (ddf a l)
  | [], _, _, _, _, _, _ => rfl
  | r :: l, b, p, a, h1, h2, h3 => by
    simp only [tq, ddf]
    by_cases e : a = r
    · rw [if_pos e, if_pos e.symm]
      exact tq_lq l b p a h1 h2 h3
    · rw [if_neg e, if_neg (show ¬ r = a from fun z => e z.symm)]
      simp only [lq]
      by_cases bt : Btw a b r
      · rw [if_pos bt]
        have hk : ¬ (decide (a > p) = decide (a > r)) := by
          intro z
          rw [decide_eq_decide] at z
          omega
        rw [if_neg hk]
        exact tq_lq l b a r (by omega) (fun z => e z.symm) (by omega)
      · rw [if_neg bt]
        have hk : decide (a > p) = decide (a > r) := by
          rw [decide_eq_decide]
          omega
        rw [if_pos hk]
        rw [tq_lq l a a r (fun z => e z.symm) (fun z => e z.symm) Iff.rfl]
theorem ts_lp : ∀ (l : List Int) (a : Int), ts a l = lp (a :: ddf a l)
  | [], _ => rfl
  | r :: l, a => by
    simp only [ts, ddf]
    by_cases e : a = r
    · rw [if_pos e, if_pos e.symm]
      exact ts_lp l a
    · rw [if_neg e, if_neg (show ¬ r = a from fun z => e z.symm)]
      rw [tq_lq l a a r (fun z => e z.symm) (fun z => e z.symm) Iff.rfl]
      rfl
theorem tp_lp (ns : List Int) : tp ns = lp (dd ns) := by
  cases ns with
  | nil => rfl
  | cons a l => exact ts_lp l a
/-- what the stack leaves, goes through the stack as it is -/
theorem tq_again : ∀ (l : List Int) (b a : Int), a ≠ b → ∃ x s, tq b a l = x :: s ∧ x ≠ b ∧ (x > b ↔ a > b) ∧ tq b x s = x :: s
  | [], b, a, h => ⟨a, [], rfl, h, Iff.rfl, rfl⟩
  | r :: l, b, a, h => by
    simp only [tq]
    by_cases e : a = r
    · rw [if_pos e]
      exact tq_again l b a h
    · rw [if_neg e]
      by_cases bt : Btw a b r
      · rw [if_pos bt]
        obtain ⟨x, s, h1, h2, h3, h4⟩ := tq_again l b r (by omega)
        exact ⟨x, s, h1, h2, by omega, h4⟩
      · rw [if_neg bt]
        obtain ⟨y, s, h1, h2, h3, h4⟩ := tq_again l a r (fun z => e z.symm)
        refine ⟨a, y :: s, by rw [h1], h, Iff.rfl, ?_⟩
        simp only [tq]
        have n1 : ¬ Btw a b y := by
          intro z
          have h6 : r > a ↔ y > a := h3.symm
          omega
        rw [if_neg (fun z : a = y => h2 z.symm), if_neg n1, h4]
theorem ts_again : ∀ (l : List Int) (a : Int), tp (ts a l) = ts a l
  | [], _ => rfl
  | r :: l, a => by
    simp only [ts]
    by_cases e : a = r
    · rw [if_pos e]
      exact ts_again l a
    · rw [if_neg e]
      obtain ⟨x, s, h1, h2, _, h4⟩ := tq_again l a r (fun z => e z.symm)
      rw [h1]
      show ts a (x :: s) = a :: x :: s
      simp only [ts]
      rw [if_neg (fun z : a = x => h2 z.symm), h4]
theorem tp_again (ns : List Int) : tp (tp ns) = tp ns := by
  cases ns with
  | nil => rfl
  | cons a l => exact ts_again l a
theorem tq_last : ∀ (l : List Int) (b a z : Int), (a :: l).getLast? = some z → tq b a (l ++ [z]) = tq b a l
  | [], b, a, z, h => by
    have e : a = z := Option.some.inj h
    subst e
    show tq b a [a] = [a]
    simp only [tq, if_true]
  | r :: l, b, a, z, h => by
    have h2 : (r :: l).getLast? = some z := by rw [List.getLast?_cons_cons] at h; exact h
    show tq b a (r :: (l ++ [z])) = tq b a (r :: l)
    simp only [tq]
    by_cases e : a = r
    · rw [if_pos e, if_pos e]
      subst e
      exact tq_last l b a z h2
    · rw [if_neg e, if_neg e, tq_last l b r z h2, tq_last l a r z h2]
theorem ts_last : ∀ (l : List Int) (a z : Int), (a :: l).getLast? = some z → ts a (l ++ [z]) = ts a l
  | [], a, z, h => by
    have e : a = z := Option.some.inj h
    subst e
    show ts a [a] = [a]
    simp only [ts, if_true]
  | r :: l, a, z, h => by
    have h2 : (r :: l).getLast? = some z := by rw [List.getLast?_cons_cons] at h; exact h
    show ts a (r :: (l ++ [z])) = ts a (r :: l)
    simp only [ts]
    by_cases e : a = r
    · rw [if_pos e, if_pos e]
      subst e
      exact ts_last l a z h2
    · rw [if_neg e, if_neg e, tq_last l a r z h2]
theorem tp_last (ns : List Int) (z : Int) (h : ns.getLast? = some z) : tp (ns ++ [z]) = tp ns := by
  cases ns with
  | nil => simp at h
  | cons a l => exact ts_last l a z h
/-- sizes and bounds -/
theorem tq_mem : ∀ (l : List Int) (b a x : Int), x ∈ tq b a l → x = a ∨ x ∈ l
  | [], _, _, x, h => .inl (List.mem_singleton.mp h)
  | r :: l, b, a, x, h => by
    simp only [tq] at h
    split at h
    · rcases tq_mem l b a x h with z | z
      · exact .inl z
      · exact .inr (List.mem_cons_of_mem _ z)
    · split at h
      · rcases tq_mem l b r x h with z | z
        · rw [z]; exact .inr List.mem_cons_self
        · exact .inr (List.mem_cons_of_mem _ z)
      · rcases List.mem_cons.mp h with z | z
        · exact .inl z
        · rcases tq_mem l a r x z with z | z
          · rw [z]; exact .inr List.mem_cons_self
          · exact .inr (List.mem_cons_of_mem _ z)
theorem tq_len : ∀ (l : List Int) (b a : Int), (tq b a l).length ≤ l.length + 1
  | [], _, _ => Nat.le_refl _
  | r :: l, b, a => by
    have h1 := tq_len l b a
    have h2 := tq_len l b r
    have h3 := tq_len l a r
    simp only [tq, List.length_cons]
    split
    · omega
    · split
      · omega
      · rw [List.length_cons]; omega
theorem ts_mem : ∀ (l : List Int) (a x : Int), x ∈ ts a l → x = a ∨ x ∈ l
  | [], _, x, h => .inl (List.mem_singleton.mp h)
  | r :: l, a, x, h => by
    simp only [ts] at h
    split at h
    · rcases ts_mem l a x h with z | z
      · exact .inl z
      · exact .inr (List.mem_cons_of_mem _ z)
    · rcases List.mem_cons.mp h with z | z
      · exact .inl z
      · rcases tq_mem l a r x z with z | z
        · rw [z]; exact .inr List.mem_cons_self
        · exact .inr (List.mem_cons_of_mem _ z)
theorem ts_len : ∀ (l : List Int) (a : Int), (ts a l).length ≤ l.length + 1
  | [], _ => Nat.le_refl _
  | r :: l, a => by
    have h1 := ts_len l a
    have h2 := tq_len l a r
    simp only [ts, List.length_cons]
    split
    · omega
    · rw [List.length_cons]; omega
theorem tp_mem {ns : List Int} {x : Int} (h : x ∈ tp ns) : x ∈ ns := by
  cases ns with
  | nil => exact h
  | cons a l =>
    rcases ts_mem l a x h with z | z
    · rw [z]; exact List.mem_cons_self
    · exact List.mem_cons_of_mem _ z
theorem tp_len (ns : List Int) : (tp ns).length ≤ ns.length := by
  cases ns with
  | nil => exact Nat.le_refl _
  | cons a l => exact ts_len l a
/-- the swings of turning points -/
def rg (a b : Int) : Int × Int := (if b < a then b else a, if b > a then b else a)
def sw : List Int → List (Int × Int)
  | x :: y :: l => rg x y :: sw (y :: l)
  | _ => []
theorem sw_len : ∀ ps : List Int, (sw ps).length = ps.length - 1
  | [] => rfl
  | [_] => rfl
  | x :: y :: l => by
    have := sw_len (y :: l)
    simp only [sw, List.length_cons] at this ⊢
    omega
theorem sw_take : ∀ (ps : List Int) (i : Nat) (x y : Int), ps[i]? = some x → ps[i + 1]? = some y → (sw ps).take (i + 1) = (sw ps).take i ++ [rg x y]
  | [], _, _, _, h, _ => by simp at h
  | [_], 0, _, _, _, h => by simp at h
  | [_], i + 1, _, _, h, _ => by simp at h
  | a :: b :: l, 0, x, y, h, h2 => by
    have e1 : a = x := Option.some.inj h
    have e2 : b = y := Option.some.inj h2
    subst e1 e2
    rfl
  | a :: b :: l, i + 1, x, y, h, h2 => by
    have ih := sw_take (b :: l) i x y h h2
    show rg a b :: (sw (b :: l)).take (i + 1) = rg a b :: (sw (b :: l)).take i ++ [rg x y]
    rw [ih]
    rfl
theorem sw_mem : ∀ (ps : List Int) (B : Nat), (∀ x ∈ ps, x.natAbs < B) → ∀ r ∈ sw ps, r.1.natAbs < B ∧ r.2.natAbs < B
  | [], _, _, r, h => by simp [sw] at h
  | [_], _, _, r, h => by simp [sw] at h
  | x :: y :: l, B, hb, r, h => by
    rcases List.mem_cons.mp (show r ∈ rg x y :: sw (y :: l) from h) with z | z
    · have h1 := hb x List.mem_cons_self
      have h2 := hb y (List.mem_cons_of_mem _ List.mem_cons_self)
      rw [z]
      unfold rg
      constructor <;> (dsimp only; split <;> assumption)
    · exact sw_mem (y :: l) B (fun x hx => hb x (List.mem_cons_of_mem _ hx)) r z
end PM

/-! points taken out, in any order: one count -/
namespace RM
open PM
/-- of four points in a row, the middle two may be taken out -/
abbrev Taken (a b c d : Int) : Prop := ((rg a b).1 ≤ (rg b c).1 ∧ (rg b c).2 ≤ (rg a b).2) ∧ ((rg c d).1 ≤ (rg b c).1 ∧ (rg b c).2 ≤ (rg c d).2)
/-- up and down by turns -/
def ZZ : List Int → Prop
  | x :: y :: z :: r => ((x < y ∧ z < y) ∨ (y < x ∧ y < z)) ∧ ZZ (y :: z :: r)
  | [x, y] => x ≠ y
  | _ => True
inductive Step : List Int → Int × Int → List Int → Prop
  | here {a b c d : Int} {post : List Int} : Taken a b c d → Step (a :: b :: c :: d :: post) (rg b c) (a :: d :: post)
  | there {x : Int} {p q : List Int} {cy : Int × Int} : Step p cy q → Step (x :: p) cy (x :: q)
theorem ZZ.tail {x : Int} : ∀ {p : List Int}, ZZ (x :: p) → ZZ p
  | [], _ => trivial
  | [_], _ => trivial
  | [y, z], h => by
    have h1 := h.1
    show y ≠ z
    omega
  | y :: z :: u :: r, h => h.2
theorem Step.head {x : Int} {p q : List Int} {cy : Int × Int} (h : Step (x :: p) cy q) : ∃ q', q = x :: q' := by
  cases h with
  | here _ => exact ⟨_, rfl⟩
  | there _ => exact ⟨_, rfl⟩
theorem Step.len {p q : List Int} {cy : Int × Int} (h : Step p cy q) : p.length = q.length + 2 := by
  induction h with
  | here _ => simp only [List.length_cons]
  | there _ ih => simp only [List.length_cons]; omega
theorem rg_up {a b : Int} (h : a < b) : rg a b = (a, b) := by unfold rg; rw [if_neg (by omega), if_pos (by omega)]
theorem rg_down {a b : Int} (h : b < a) : rg a b = (b, a) := by unfold rg; rw [if_pos h, if_neg (by omega)]
/-- among points that go up and down -/
theorem taken_iff {a b c d : Int} (h : ZZ (a :: b :: c :: d :: [])) : Taken a b c d ↔ (a < b ∧ c < b ∧ c < d ∧ a ≤ c ∧ b ≤ d) ∨ (b < a ∧ b < c ∧ d < c ∧ c ≤ a ∧ d ≤ b) := by
  have h1 := h.1
  have h2 := h.2.1
  unfold Taken
  rcases h1 with ⟨x, y⟩ | ⟨x, y⟩
  · have z : c < d := by omega
    rw [rg_up x, rg_down y, rg_up z]
    dsimp only
    omega
  · have z : d < c := by omega
    rw [rg_down x, rg_up y, rg_down z]
    dsimp only
    omega
theorem ZZ.four {a b c d : Int} {r : List Int} (h : ZZ (a :: b :: c :: d :: r)) : ZZ (a :: b :: c :: d :: []) := by
  refine ⟨h.1, h.2.1, ?_⟩
  have := h.2.1
  show c ≠ d
  omega
theorem zz_here {a b c d : Int} : ∀ {post : List Int}, ZZ (a :: b :: c :: d :: post) → Taken a b c d → ZZ (a :: d :: post)
  | [], h, t => by
    rcases (taken_iff h.four).mp t with z | z
    · show a ≠ d
      omega
    · show a ≠ d
      omega
  | e :: r, h, t => by
    have h3 := h.2.2.1
    refine ⟨?_, h.2.2.2⟩
    rcases (taken_iff h.four).mp t with z | z <;> omega
theorem zz_cons {x y : Int} {p : List Int} (h : ZZ (x :: y :: p)) : x ≠ y := by
  cases p with
  | nil => exact h
  | cons z r => have := h.1; omega
theorem ZZ.step {p q : List Int} {cy : Int × Int} (h : Step p cy q) : ZZ p → ZZ q := by
  induction h with
  | here t => exact fun z => zz_here z t
  | @there x p q cy h ih =>
    intro z
    have zq := ih z.tail
    cases h with
    | @here a b c d post t =>
      have z1 := z.1
      have ti := (taken_iff z.tail.four).mp t
      refine ⟨?_, zq⟩
      rcases ti with t | t <;> omega
    | @there y p' q' cy' h' =>
      cases q' with
      | nil =>
        have := h'.len
        exact zz_cons z
      | cons u v =>
        cases p' with
        | nil => have := h'.len; simp at this
        | cons u' v' =>
          obtain ⟨v'', e⟩ := h'.head
          have e1 : u = u' := (List.cons.inj e).1
          subst e1
          exact ⟨z.1, zq⟩
/-- two ways to go on meet again -/
theorem diamond {p p1 : List Int} {c1 : Int × Int} (h1 : Step p c1 p1) : ∀ {p2 : List Int} {c2 : Int × Int}, Step p c2 p2 → ZZ p → (c1 = c2 ∧ p1 = p2) ∨ ∃ p3, Step p1 c2 p3 ∧ Step p2 c1 p3 := by
  have key : ∀ {a b c d : Int} {post : List Int} {p2 : List Int} {c2 : Int × Int}, Taken a b c d → Step (b :: c :: d :: post) c2 p2 → ZZ (a :: b :: c :: d :: post) →
      (rg b c = c2 ∧ a :: d :: post = a :: p2) ∨ ∃ p3, Step (a :: d :: post) c2 p3 ∧ Step (a :: p2) (rg b c) p3 := by
    intro a b c d post p2 c2 t h z
    have t1 := (taken_iff z.four).mp t
    cases h with
    | @here _ _ _ e post' t2 =>
      have t3 := (taken_iff z.tail.four).mp t2
      have ebd : b = d := by omega
      subst ebd
      refine .inl ⟨?_, rfl⟩
      have z1 := z.1
      rcases z1 with ⟨x, y⟩ | ⟨x, y⟩
      · rw [rg_down y, rg_up y]
      · rw [rg_up y, rg_down y]
    | @there _ _ q2 _ h2 =>
      cases h2 with
      | @here _ _ e f post' t2 =>
        have t3 := (taken_iff z.tail.tail.four).mp t2
        have za : ZZ (a :: d :: e :: f :: post') := zz_here z t
        have zb : ZZ (a :: b :: c :: f :: post') := ZZ.step (.there (.there (.here t2))) z
        exact .inr ⟨a :: f :: post', .here ((taken_iff za.four).mpr (by omega)), .here ((taken_iff zb.four).mpr (by omega))⟩
      | @there _ _ q3 _ h3 =>
        obtain ⟨q4, rfl⟩ := h3.head
        exact .inr ⟨a :: d :: q4, .there h3, .here t⟩
  induction h1 with
  | @here a b c d post t =>
    intro p2 c2 h2 z
    cases h2 with
    | here _ => exact .inl ⟨rfl, rfl⟩
    | @there _ _ q2 _ h2 => exact key t h2 z
  | @there x p q cy h1 ih =>
    intro p2 c2 h2 z
    cases h2 with
    | @here a b c d post t =>
      rcases key t h1 z with ⟨e1, e2⟩ | ⟨p3, s1, s2⟩
      · exact .inl ⟨e1.symm, e2.symm⟩
      · exact .inr ⟨p3, s2, s1⟩
    | @there _ _ q2 _ h2 =>
      rcases ih h2 z.tail with ⟨e1, e2⟩ | ⟨p3, s1, s2⟩
      · exact .inl ⟨e1, by rw [e2]⟩
      · exact .inr ⟨x :: p3, .there s1, .there s2⟩
inductive Run : List Int → List (Int × Int) → List Int → Prop
  | nil (p : List Int) : Run p [] p
  | cons {p q r : List Int} {c : Int × Int} {cs : List (Int × Int)} : Step p c q → Run q cs r → Run p (c :: cs) r
/-- nothing can be taken out -/
def NF (p : List Int) : Prop := ∀ c q, ¬ Step p c q
theorem Run.snoc {p q r : List Int} {c : Int × Int} {cs : List (Int × Int)} (h : Run p cs q) (s : Step q c r) : Run p (cs ++ [c]) r := by
  induction h with
  | nil p => exact .cons s (.nil _)
  | cons h1 _ ih => exact .cons h1 (ih s)
theorem Run.zz {p q : List Int} {cs : List (Int × Int)} (h : Run p cs q) : ZZ p → ZZ q := by
  induction h with
  | nil p => exact id
  | cons h1 _ ih => exact fun z => ih (ZZ.step h1 z)
theorem Run.len {p q : List Int} {cs : List (Int × Int)} (h : Run p cs q) : p.length = q.length + 2 * cs.length := by
  induction h with
  | nil p => simp
  | cons h1 _ ih => have := h1.len; rw [List.length_cons]; omega
theorem ends : ∀ (n : Nat) (p : List Int), p.length ≤ n → ∃ cs r, Run p cs r ∧ NF r
  | 0, p, h => ⟨[], p, .nil p, fun c q s => by have := s.len; omega⟩
  | n + 1, p, h => by
    by_cases e : ∃ c q, Step p c q
    · obtain ⟨c, q, s⟩ := e
      have := s.len
      obtain ⟨cs, r, h1, h2⟩ := ends n q (by omega)
      exact ⟨c :: cs, r, .cons s h1, h2⟩
    · exact ⟨[], p, .nil p, fun c q s => e ⟨c, q, s⟩⟩
/-- in whatever order points are taken out, the same cycles and the same rest come out -/
theorem unique : ∀ (n : Nat) (p : List Int), p.length ≤ n → ZZ p → ∀ {cs ds : List (Int × Int)} {r s : List Int}, Run p cs r → NF r → Run p ds s → NF s → r = s ∧ cs.Perm ds := by
  intro n
  induction n with
  | zero =>
    intro p hp z cs ds r s h1 n1 h2 n2
    cases h1 with
    | nil _ => cases h2 with
      | nil _ => exact ⟨rfl, .nil⟩
      | cons s2 _ => exact absurd s2 (n1 _ _)
    | cons s1 _ => have := s1.len; omega
  | succ n ih =>
    intro p hp z cs ds r s h1 n1 h2 n2
    cases h1 with
    | nil _ => cases h2 with
      | nil _ => exact ⟨rfl, .nil⟩
      | cons s2 _ => exact absurd s2 (n1 _ _)
    | @cons _ q1 _ c1 cs' s1 r1 =>
      cases h2 with
      | nil _ => exact absurd s1 (n2 _ _)
      | @cons _ q2 _ c2 ds' s2 r2 =>
        have l1 := s1.len
        have l2 := s2.len
        rcases diamond s1 s2 z with ⟨e1, e2⟩ | ⟨p3, t1, t2⟩
        · subst e1 e2
          obtain ⟨e, pm⟩ := ih q1 (by omega) (ZZ.step s1 z) r1 n1 r2 n2
          exact ⟨e, pm.cons _⟩
        · obtain ⟨es, t, r3, n3⟩ := ends p3.length p3 (Nat.le_refl _)
          obtain ⟨e1, m1⟩ := ih q1 (by omega) (ZZ.step s1 z) r1 n1 (.cons t1 r3) n3
          obtain ⟨e2, m2⟩ := ih q2 (by omega) (ZZ.step s2 z) r2 n2 (.cons t2 r3) n3
          refine ⟨e1.trans e2.symm, ?_⟩
          exact ((m1.cons c1).trans (.swap c2 c1 es)).trans (m2.symm.cons c2)
theorem one_count {p : List Int} (z : ZZ p) {cs ds : List (Int × Int)} {r s : List Int} (h1 : Run p cs r) (n1 : NF r) (h2 : Run p ds s) (n2 : NF s) : r = s ∧ cs.Perm ds := unique p.length p (Nat.le_refl _) z h1 n1 h2 n2
/-! ### the stack's way -/
theorem Step.suffix {p q : List Int} {cy : Int × Int} (h : Step p cy q) (l : List Int) : Step (p ++ l) cy (q ++ l) := by
  induction h with
  | here t => exact .here t
  | there _ ih => exact .there ih
theorem Step.prefix {p q : List Int} {cy : Int × Int} (h : Step p cy q) : ∀ l : List Int, Step (l ++ p) cy (l ++ q)
  | [] => h
  | x :: l => .there (h.prefix l)
theorem step_last {p : List Int} {cy : Int × Int} {q : List Int} (h : Step p cy q) : ∀ {m : List Int} {x : Int}, p = m ++ [x] → (∃ q', Step m cy q' ∧ q = q' ++ [x]) ∨ ∃ pre a b c, p = pre ++ [a, b, c, x] ∧ Taken a b c x := by
  induction h with
  | @here a b c d post t =>
    intro m x e
    rcases List.eq_nil_or_concat post with rfl | ⟨post', y, rfl⟩
    · have e2 : [a, b, c] ++ [d] = m ++ [x] := e
      obtain ⟨_, e4⟩ := List.append_inj' e2 rfl
      have e5 : d = x := (List.cons.inj e4).1
      subst e5
      exact .inr ⟨[], a, b, c, rfl, t⟩
    · have e2 : (a :: b :: c :: d :: post') ++ [y] = m ++ [x] := by rw [← e]; simp
      obtain ⟨e3, e4⟩ := List.append_inj' e2 rfl
      have e5 : y = x := (List.cons.inj e4).1
      subst e5 e3
      exact .inl ⟨a :: d :: post', .here t, by simp⟩
  | @there y p q cy h ih =>
    intro m x e
    cases m with
    | nil =>
      have e2 : p = [] := (List.cons.inj e).2
      subst e2
      cases h
    | cons y' m' =>
      obtain ⟨e1, e2⟩ := List.cons.inj e
      subst e1
      rcases ih e2 with ⟨q', s, e3⟩ | ⟨pre, a, b, c, e3, t⟩
      · exact .inl ⟨y :: q', .there s, by rw [e3]; rfl⟩
      · exact .inr ⟨y :: pre, a, b, c, by rw [e3]; rfl, t⟩
theorem nf_push {m : List Int} {x : Int} (h : NF m) (n : ∀ pre a b c, m ++ [x] = pre ++ [a, b, c, x] → ¬ Taken a b c x) : NF (m ++ [x]) := by
  intro cy q s
  rcases step_last s rfl with ⟨q', s', _⟩ | ⟨pre, a, b, c, e, t⟩
  · exact h _ _ s'
  · exact n pre a b c e t
theorem nf_prefix {m l : List Int} (h : NF (m ++ l)) : NF m := fun cy q s => h _ _ (s.suffix l)
/-- turning points go up and down -/
theorem tq_zz : ∀ (l : List Int) (b a : Int), a ≠ b → ∃ x s, tq b a l = x :: s ∧ (x > b ↔ a > b) ∧ x ≠ b ∧ ZZ (b :: x :: s)
  | [], b, a, h => ⟨a, [], rfl, Iff.rfl, h, fun z => h z.symm⟩
  | r :: l, b, a, h => by
    simp only [tq]
    by_cases e : a = r
    · rw [if_pos e]
      exact tq_zz l b a h
    · rw [if_neg e]
      by_cases bt : Btw a b r
      · rw [if_pos bt]
        obtain ⟨x, s, h1, h2, h3, h4⟩ := tq_zz l b r (by omega)
        exact ⟨x, s, h1, by omega, h3, h4⟩
      · rw [if_neg bt]
        obtain ⟨y, s, h1, h2, h3, h4⟩ := tq_zz l a r (fun z => e z.symm)
        refine ⟨a, y :: s, by rw [h1], Iff.rfl, h, ?_, h4⟩
        have h5 : y > a ↔ r > a := h2
        omega
theorem ts_zz : ∀ (l : List Int) (a : Int), ZZ (ts a l)
  | [], _ => trivial
  | r :: l, a => by
    simp only [ts]
    by_cases e : a = r
    · rw [if_pos e]
      exact ts_zz l a
    · rw [if_neg e]
      obtain ⟨x, s, h1, _, _, h4⟩ := tq_zz l a r (fun z => e z.symm)
      rw [h1]
      exact h4
theorem tp_zz (ns : List Int) : ZZ (tp ns) := by
  cases ns with
  | nil => exact trivial
  | cons a l => exact ts_zz l a
end RM

/-! heaps; the texts of data; a walk over two tuples -/
namespace KA
open PySem PySem.Spec PyProof.Rows L2
theorem same_new {H : Hp} {p : Addr} {o : HO} (h : H p = none) : Same H (upd H p o) := fun b x e => by
  rw [upd_ne (ne_of_none e h)]
  exact e
theorem same_again {H0 H : Hp} {p : Addr} {o : HO} (h : H0 p = none) (s : Same H0 H) : Same H0 (upd H p o) := fun b x e => by
  rw [upd_ne (ne_of_none e h)]
  exact s b x e
theorem SqT_same {K : PySem.W.Frag} {H H' : Hp} {a : Addr} {xs : List V} (e : Same H H') (h : SqT K H a xs) : SqT K H' a xs := by
  rcases h with (h | ⟨o, h⟩) | h
  · exact .inl (.inl (e _ _ h))
  · exact .inl (.inr ⟨o, e _ _ h⟩)
  · exact .inr h
theorem int_at {ns : List Int} {i : Nat} {x : V} (h : (ns.map V.int)[i]? = some x) : ∃ r, ns[i]? = some r ∧ x = .int r := by
  rw [List.getElem?_map] at h
  cases e : ns[i]? with
  | none => rw [e] at h; cases h
  | some r => rw [e] at h; exact ⟨r, rfl, (Option.some.inj h).symm⟩
theorem small3000 {n : Nat} (h : n ≤ 3000) : n < sizeLine := Nat.lt_of_le_of_lt h (by decide)
theorem at_int {ns : List Int} {i : Nat} {r : Int} (h : ns[i]? = some r) : (ns.map V.int)[i]? = some (.int r) := by
  rw [List.getElem?_map, h]
  rfl
end KA
namespace KB
end KB
namespace PH
open PySem PySem.Spec PyProof.Rows L2 KA
/-- a list or a tuple of xs stands at a -/
def Sq (K : PySem.W.Frag) (H : Hp) (a : Addr) (xs : List V) : Prop := SqL K H a xs ∨ SqT K H a xs
theorem Sq.same {K : PySem.W.Frag} {H H' : Hp} {a : Addr} {xs : List V} (h : Sq K H a xs) (e : Same H H') : Sq K H' a xs := h.elim (fun z => .inl (e.seq z)) (fun z => .inr (SqT_same e z))
/-- pairs of ints stand at the refs of xs -/
def PairsAt (H : Hp) : List V → List (Int × Int) → Prop
  | [], [] => True
  | x :: xs, r :: rs => (∃ p, x = .ref p ∧ H p = some (.tup [.int r.1, .int r.2])) ∧ PairsAt H xs rs
  | _, _ => False
theorem PairsAt.same {H H' : Hp} (e : Same H H') : ∀ {xs : List V} {rs : List (Int × Int)}, PairsAt H xs rs → PairsAt H' xs rs
  | [], [], _ => trivial
  | x :: xs, r :: rs, ⟨⟨p, h1, h2⟩, h3⟩ => ⟨⟨p, h1, e _ _ h2⟩, PairsAt.same e h3⟩
  | [], _ :: _, h => h.elim
  | _ :: _, [], h => h.elim
theorem PairsAt.length {H : Hp} : ∀ {xs : List V} {rs : List (Int × Int)}, PairsAt H xs rs → xs.length = rs.length
  | [], [], _ => rfl
  | x :: xs, r :: rs, ⟨_, h3⟩ => by rw [List.length_cons, List.length_cons, PairsAt.length h3]
  | [], _ :: _, h => h.elim
  | _ :: _, [], h => h.elim
theorem PairsAt.append {H : Hp} : ∀ {xs ys : List V} {rs ss : List (Int × Int)}, PairsAt H xs rs → PairsAt H ys ss → PairsAt H (xs ++ ys) (rs ++ ss)
  | [], _, [], _, _, h => h
  | x :: xs, _, r :: rs, _, ⟨h1, h2⟩, h => ⟨h1, PairsAt.append h2 h⟩
  | [], _, _ :: _, _, h, _ => h.elim
  | _ :: _, _, [], _, h, _ => h.elim
theorem PairsAt.take {H : Hp} : ∀ {xs : List V} {rs : List (Int × Int)} (n : Nat), PairsAt H xs rs → PairsAt H (xs.take n) (rs.take n)
  | [], [], n, _ => by simp [PairsAt]
  | x :: xs, r :: rs, 0, _ => trivial
  | x :: xs, r :: rs, n + 1, ⟨h1, h2⟩ => ⟨h1, PairsAt.take n h2⟩
  | [], _ :: _, _, h => h.elim
  | _ :: _, [], _, h => h.elim
theorem PairsAt.get {H : Hp} : ∀ {xs : List V} {rs : List (Int × Int)} {i : Nat} {x : V}, PairsAt H xs rs → xs[i]? = some x → ∃ p a b, x = .ref p ∧ H p = some (.tup [.int a, .int b])
  | x :: xs, r :: rs, 0, y, ⟨⟨p, h1, h2⟩, _⟩, e => ⟨p, r.1, r.2, by rw [← h1]; exact (Option.some.inj e).symm, h2⟩
  | x :: xs, r :: rs, i + 1, y, ⟨_, h⟩, e => PairsAt.get h e
  | [], [], i, y, _, e => by simp at e
  | [], _ :: _, _, _, h, _ => h.elim
  | _ :: _, [], _, _, h, _ => h.elim
/-! ### data -/
def dInts (ns : List Int) : List PyData := ns.map PyData.int
def dPairs (rs : List (Int × Int)) : List PyData := rs.map fun r => .tuple [.int r.1, .int r.2]
theorem dp_ints {K : PySem.W.Frag} {H : Hp} : ∀ ns : List Int, DpAll K H (ns.map V.int) (dInts ns)
  | [] => .nil
  | n :: ns => .cons (.int n) (dp_ints ns)
theorem dp_pairs {K : PySem.W.Frag} {H : Hp} : ∀ {xs : List V} {rs : List (Int × Int)}, PairsAt H xs rs → DpAll K H xs (dPairs rs)
  | [], [], _ => .nil
  | x :: xs, r :: rs, ⟨⟨p, h1, h2⟩, h3⟩ => by
    subst h1
    exact .cons (.tup (SqT.of h2) (.cons (.int _) (.cons (.int _) .nil))) (dp_pairs h3)
  | [], _ :: _, h => h.elim
  | _ :: _, [], h => h.elim
theorem lay_ints : ∀ ns : List Int, PyData.canLayAll0 (dInts ns) = true
  | [] => rfl
  | n :: ns => by
    show (PyData.canLay0 (.int n) && PyData.canLayAll0 (dInts ns)) = true
    rw [lay_ints ns]
    simp only [PyData.canLay0, Bool.and_true]
theorem lay_pairs : ∀ rs : List (Int × Int), PyData.canLayAll0 (dPairs rs) = true
  | [] => rfl
  | r :: rs => by
    show (PyData.canLay0 (.tuple [.int r.1, .int r.2]) && PyData.canLayAll0 (dPairs rs)) = true
    rw [lay_pairs rs]
    simp only [PyData.canLay0, PyData.canLayAll0, Bool.and_true]
theorem depth_pairs : ∀ rs : List (Int × Int), PyData.depthAll (dPairs rs) ≤ 3
  | [] => Nat.zero_le _
  | r :: rs => by
    have h := depth_pairs rs
    show max (PyData.depth (.tuple [.int r.1, .int r.2])) (PyData.depthAll (dPairs rs)) ≤ 3
    simp only [PyData.depth, PyData.depthAll]
    omega
theorem shaped_of {d : PyData} (h1 : d.canLay0 = true) (h2 : d.depth ≤ 64) : SeqAt.shaped d = true := by
  unfold SeqAt.shaped
  rw [h1, decide_eq_true h2]
  rfl
theorem shaped_lst (ns : List Int) : SeqAt.shaped (.list (dInts ns)) = true :=
  shaped_of (by simp only [PyData.canLay0, lay_ints]) (by have := KG.depth_all ns; show PyData.depth (.list (ns.map PyData.int)) ≤ 64; simp only [PyData.depth]; omega)
theorem shaped_tup (ns : List Int) : SeqAt.shaped (.tuple (dInts ns)) = true :=
  shaped_of (by simp only [PyData.canLay0, lay_ints]) (by have := KG.depth_all ns; show PyData.depth (.tuple (ns.map PyData.int)) ≤ 64; simp only [PyData.depth]; omega)
theorem shaped_prs (rs : List (Int × Int)) : SeqAt.shaped (.list (dPairs rs)) = true :=
  shaped_of (by simp only [PyData.canLay0, lay_pairs]) (by have := depth_pairs rs; simp only [PyData.depth]; omega)
theorem eqv_same {d : PyData} (h : SeqAt.shaped d = true) : PyData.eqv d d = true := by
  refine SeqAt.eqv_refl d ?_
  unfold SeqAt.shaped at h
  rw [Bool.and_eq_true] at h
  exact h.1
/-- what repr asks of data -/
structure Nice (d : PyData) : Prop where
  show' : d.showable = true
  dict : d.hasDict = false
  depth : d.depth ≤ 10
  fits : d.shown.length ≤ sizeLine
theorem nice_lst {ns : List Int} (h : ∀ n ∈ ns, n.natAbs < 2 ^ 39) (hl : ns.length ≤ 2000) : Nice (.list (dInts ns)) :=
  ⟨by simp only [PyData.showable]; exact KG.show_all ns fun m hm => Nat.lt_trans (h m hm) (by decide), by simp only [PyData.hasDict]; exact KG.nodict_all ns,
    by have := KG.depth_all ns; show PyData.depth (.list (ns.map PyData.int)) ≤ 10; simp only [PyData.depth]; omega, KG.repr_fits h hl⟩
theorem nice_tup {ns : List Int} (h : ∀ n ∈ ns, n.natAbs < 2 ^ 39) (hl : ns.length ≤ 2000) : Nice (.tuple (dInts ns)) :=
  ⟨by simp only [PyData.showable]; exact KG.show_all ns fun m hm => Nat.lt_trans (h m hm) (by decide), by simp only [PyData.hasDict]; exact KG.nodict_all ns,
    by have := KG.depth_all ns; show PyData.depth (.tuple (ns.map PyData.int)) ≤ 10; simp only [PyData.depth]; omega, by
      refine PyData.shown_fits (B := 13) (by decide) (by decide) ?_ ?_
      · simp only [PyData.leavesShort]
        exact KG.leaves_all ns fun n hn => Nat.lt_trans (h n hn) (by decide)
      · have := KG.weight_all ns h
        show PyData.weight (.tuple (ns.map PyData.int)) ≤ _
        simp only [PyData.weight]
        omega⟩
theorem leaf_int {a : Int} (h : a.natAbs < 2 ^ 39) : PyData.leavesShort 13 (.int a) = true := by
  have := KG.leaves_all [a] fun n hn => by rw [List.mem_singleton.mp hn]; exact Nat.lt_trans h (by decide)
  simpa only [List.map_cons, List.map_nil, PyData.leavesShortAll, Bool.and_true] using this
theorem show_int {a : Int} (h : a.natAbs < 2 ^ 39) : PyData.showable (.int a) = true := by
  have := KG.show_all [a] fun n hn => by rw [List.mem_singleton.mp hn]; exact Nat.lt_trans h (by decide)
  simpa only [List.map_cons, List.map_nil, PyData.showableAll, Bool.and_true] using this
theorem weight_int {a : Int} (h : a.natAbs < 2 ^ 39) : PyData.weight (.int a) + 1 ≤ 60 := by
  have := KG.weight_all [a] fun n hn => by rw [List.mem_singleton.mp hn]; exact h
  simp only [List.map_cons, List.map_nil, PyData.weightAll, List.length_singleton] at this
  omega
theorem pairs_show : ∀ rs : List (Int × Int), (∀ r ∈ rs, r.1.natAbs < 2 ^ 39 ∧ r.2.natAbs < 2 ^ 39) → PyData.showableAll (dPairs rs) = true
  | [], _ => rfl
  | r :: rs, h => by
    have h1 := h r List.mem_cons_self
    show (PyData.showable (.tuple [.int r.1, .int r.2]) && PyData.showableAll (dPairs rs)) = true
    rw [pairs_show rs fun x hx => h x (List.mem_cons_of_mem _ hx)]
    have e1 := show_int h1.1
    have e2 := show_int h1.2
    simp only [PyData.showable, PyData.showableAll] at e1 e2 ⊢
    rw [e1, e2]
    rfl
theorem pairs_dict : ∀ rs : List (Int × Int), PyData.hasDictAll (dPairs rs) = false
  | [] => rfl
  | r :: rs => by
    show (PyData.hasDict (.tuple [.int r.1, .int r.2]) || PyData.hasDictAll (dPairs rs)) = false
    rw [pairs_dict rs]
    simp only [PyData.hasDict, PyData.hasDictAll, Bool.or_self]
theorem pairs_leaves : ∀ rs : List (Int × Int), (∀ r ∈ rs, r.1.natAbs < 2 ^ 39 ∧ r.2.natAbs < 2 ^ 39) → PyData.leavesShortAll 13 (dPairs rs) = true
  | [], _ => rfl
  | r :: rs, h => by
    have h1 := h r List.mem_cons_self
    show (PyData.leavesShort 13 (.tuple [.int r.1, .int r.2]) && PyData.leavesShortAll 13 (dPairs rs)) = true
    rw [pairs_leaves rs fun x hx => h x (List.mem_cons_of_mem _ hx)]
    have e : PyData.leavesShort 13 (.tuple [.int r.1, .int r.2]) = PyData.leavesShortAll 13 [.int r.1, .int r.2] := by simp only [PyData.leavesShort]
    have e' : PyData.leavesShortAll 13 [.int r.1, .int r.2] = (PyData.leavesShort 13 (.int r.1) && (PyData.leavesShort 13 (.int r.2) && true)) := by simp only [PyData.leavesShortAll]
    rw [e, e', leaf_int h1.1, leaf_int h1.2]
    rfl
theorem pairs_weight : ∀ rs : List (Int × Int), (∀ r ∈ rs, r.1.natAbs < 2 ^ 39 ∧ r.2.natAbs < 2 ^ 39) → PyData.weightAll (dPairs rs) ≤ 130 * rs.length
  | [], _ => Nat.le_refl _
  | r :: rs, h => by
    have h1 := h r List.mem_cons_self
    have h2 := pairs_weight rs fun x hx => h x (List.mem_cons_of_mem _ hx)
    have w1 := weight_int h1.1
    have w2 := weight_int h1.2
    have e : PyData.weightAll (dPairs (r :: rs)) = PyData.weight (.tuple [.int r.1, .int r.2]) + 1 + PyData.weightAll (dPairs rs) := by
      show PyData.weightAll (_ :: _) = _
      simp only [PyData.weightAll]
      rfl
    have e2 : PyData.weight (.tuple [.int r.1, .int r.2]) = PyData.weight (.int r.1) + 1 + (PyData.weight (.int r.2) + 1 + 0) := by simp only [PyData.weight, PyData.weightAll]
    rw [e, e2, List.length_cons]
    omega
theorem nice_prs {rs : List (Int × Int)} (h : ∀ r ∈ rs, r.1.natAbs < 2 ^ 39 ∧ r.2.natAbs < 2 ^ 39) (hl : rs.length ≤ 2000) : Nice (.list (dPairs rs)) :=
  ⟨by simp only [PyData.showable]; exact pairs_show rs h, by simp only [PyData.hasDict]; exact pairs_dict rs, by have := depth_pairs rs; simp only [PyData.depth]; omega, by
    refine PyData.shown_fits (B := 13) (by decide) (by decide) ?_ ?_
    · simp only [PyData.leavesShort]
      exact pairs_leaves rs h
    · have := pairs_weight rs h
      simp only [PyData.weight]
      omega⟩
section
variable {X : Cx}
/-- repr of data at an address, while no repr is under way -/
def rReprD (K : PySem.W.Frag) : List V → Hp → VK → Prop := fun vs H Q => ∃ (a : Addr) (d : PyData), vs = [V.ref a] ∧ Dp K H (.ref a) d ∧ Nice d ∧ Q (.str d.shown) H
theorem cr_reprD (hg : X.A.guards = some []) (hu : X.A.units + 100 < cLine) : CallR X (.builtin "repr") (rReprD X.K) := by
  intro pins s σ H vs us Q I r h
  obtain ⟨a, d, rfl, hd, nc, q⟩ := h
  rw [Vals.ref1 r]
  obtain ⟨as, rd⟩ := Dp.reads I d (.ref a) (.ref a) hd rfl
  refine repr_of_reads' rd nc.show' (PyData.noDict_hsm nc.dict) hg (by have := nc.depth; omega) (fun _ _ e => e) (fun g u tk k => ?_) nc.fits
  exact ⟨.str d.shown, H, I.kept k, ⟨u, rfl⟩, q⟩
theorem cr_reprB : CallR X (.builtin "repr") (fun vs H Q => ∃ b : Bool, vs = [V.bl b] ∧ Q (.str (if b = true then "True" else "False")) H) := by
  intro pins s σ H vs us Q I r h
  obtain ⟨b, rfl, q⟩ := h
  obtain ⟨u, rfl, ru⟩ := vals1 r
  cases ru
  exact PySem.P.repr_of_bool ⟨.str _, H, I.tok _, ⟨_, rfl⟩, q⟩
end
section
variable {K : PySem.W.Frag} {a b : Addr} {xs ys : List V}
theorem walk_tups {n : Nat} (hn : n = min xs.length ys.length) : Walk (RZ.ItzT K a b) n (fun H => SqT K H a xs ∧ SqT K H b ys) (YPair (fun i => xs[i]?) (fun i => ys[i]?)) := by
  refine ⟨fun i H hi q => ⟨xs, ys, xs[i]'(by omega), ys[i]'(by omega), q.1, q.2, List.getElem?_eq_getElem (by omega), List.getElem?_eq_getElem (by omega)⟩, fun H q => ⟨xs, ys, q.1, q.2, by omega⟩, fun i H v H' _ q y => ?_⟩
  obtain ⟨T, x, z, h1, h2, h3, h4, h5⟩ := y
  exact ⟨T, x, z, h1, h2, h3, h4 xs q.1, h5 ys q.2⟩
end
/-- two promises of one def -/
theorem both {P : Program} {w : World} {K : PySem.W.Frag} {mg : Str → Option Value} {base : Heap} {CX : CXT} {k : Nat} {f : Addr} {fd : FuncData} {ps : List Str} {sp sp' : Sp}
    (F : FnOk P w K mg base CX k f fd ps sp) (G : FnOk P w K mg base CX k f fd ps sp') : FnOk P w K mg base CX k f fd ps (fun vs H Q E => sp vs H Q E ∨ sp' vs H Q E) :=
  ⟨fun vs H Q E h => h.elim (F.len vs H Q E) (G.len vs H Q E), fun A outer s H args us vs Q E hr e0 hb r h => h.elim (F.run A outer s H args us vs Q E hr e0 hb r) (G.run A outer s H args us vs Q E hr e0 hb r)⟩
end PH

namespace KA
open PySem PySem.Spec PyProof.Rows L2
def topS (i : Nat) : Stmt := PySem.Challenge.pw_wearswings_k10_known_counts.main.body.getD i (.Pass ⟨0, 0, 0, 0⟩)
end KA
namespace KD
open PySem PySem.Spec PyProof.Rows L2 KA
abbrev sFeed : Stmt := topS 26
abbrev sTake : Stmt := topS 27
abbrev sPick : Stmt := topS 28
theorem scFeed : FnScope ["script", "k", "cell", "digits", "state"] ["script", "k"] (defScope sFeed) := ⟨rfl, rfl, rfl, by decide +kernel, rfl, by decide +kernel, by decide +kernel⟩
theorem scTake : FnScope ["feed", "many", "digit"] ["feed", "many"] (defScope sTake) := ⟨rfl, rfl, rfl, by decide +kernel, rfl, by decide +kernel, by decide +kernel⟩
theorem scPick : FnScope ["feed", "some"] ["feed", "some"] (defScope sPick) := ⟨rfl, rfl, rfl, by decide +kernel, rfl, by decide +kernel, by decide +kernel⟩
/-- a feed stands at p -/
def FeedAt (H : Hp) (p : Addr) : Prop := ∃ d st : Int, 0 ≤ d ∧ 0 ≤ st ∧ st < 2305843009213693951 ∧ H p = some (.lst [.int d, .int st])
/-- all that was tracked is as it was, but what stands at f -/
def Ch (f : Addr) (H H' : Hp) : Prop := ∀ b o, b ≠ f → H b = some o → H' b = some o
theorem Ch.refl (f : Addr) (H : Hp) : Ch f H H := fun _ _ _ e => e
theorem Ch.trans {f : Addr} {H H1 H2 : Hp} (a : Ch f H H1) (b : Ch f H1 H2) : Ch f H H2 := fun c o n e => b c o n (a c o n e)
theorem Ch.of_same {f : Addr} {H H' : Hp} (s : Same H H') : Ch f H H' := fun c o _ e => s c o e
theorem Ch.put {f : Addr} {H : Hp} {o : HO} : Ch f H (upd H f o) := fun b x n e => by rw [upd_ne n]; exact e
theorem Ch.new {f p : Addr} {H : Hp} {o : HO} (h : H p = none) : Ch f H (upd H p o) := .of_same (same_new h)
theorem Ch.again {f p : Addr} {H0 H : Hp} {o : HO} (h : H0 p = none) (c : Ch f H0 H) : Ch f H0 (upd H p o) := fun b x n e => by
  rw [upd_ne (ne_of_none e h)]
  exact c b x n e
theorem Ch.free {f p : Addr} {H H' : Hp} (c : Ch f H H') (n : p ≠ f) (h : H' p = none) : H p = none := by
  cases e : H p with
  | none => rfl
  | some o =>
    rw [c p o n e] at h
    cases h
theorem Ch.seq {K : PySem.W.Frag} {f : Addr} {H H' : Hp} {a : Addr} {xs : List V} (c : Ch f H H') (n : a ≠ f) (h : SqL K H a xs) : SqL K H' a xs := by
  rcases h with (h | ⟨o, h⟩) | h
  · exact .inl (.inl (c _ _ n h))
  · exact .inl (.inr ⟨o, c _ _ n h⟩)
  · exact .inr h
/-- what stood ahead of the feed is as it was -/
theorem Ch.old {f : Addr} {H0 H H' : Hp} (c : Ch f H H') (hf : H0 f = none) (s : Same H0 H) : Same H0 H' := fun b o e => c b o (ne_of_none e hf) (s b o e)
theorem FeedAt.ne {H : Hp} {f p : Addr} (h : FeedAt H f) (n : H p = none) : p ≠ f := by
  obtain ⟨d, st, _, _, _, e⟩ := h
  exact fun z => by rw [z, e] at n; cases n
theorem FeedAt.upd {H : Hp} {f p : Addr} {o : HO} (h : FeedAt H f) (n : p ≠ f) : FeedAt (upd H p o) f := by
  obtain ⟨d, st, h1, h2, h3, e⟩ := h
  exact ⟨d, st, h1, h2, h3, by rw [upd_ne n.symm]; exact e⟩
theorem FeedAt.same {H H' : Hp} {f : Addr} (h : FeedAt H f) (s : Same H H') : FeedAt H' f := by
  obtain ⟨d, st, h1, h2, h3, e⟩ := h
  exact ⟨d, st, h1, h2, h3, s _ _ e⟩
section
variable {P : Program} {w : World} {K : PySem.W.Frag} {mg : Str → Option Value} {base : Heap}
def spFeed (K : PySem.W.Frag) : Sp := fun vs H Q _ => ∃ (a : Addr) (ns : List Int) (k : Int), vs = [.ref a, .int k] ∧ SqL K H a (ns.map V.int) ∧ 0 ≤ k ∧ k ≤ 100 ∧
  ∀ H' p, Same H H' → H p = none → FeedAt H' p → Q (.ref p) H'
theorem ok_feed {f : Addr} {fd : FuncData} {k : Nat} (F : Fun K "_law_feed" "_law_feed" sFeed f fd) (ml : mg "len" = none) (mm : mg "max" = none) (ma : mg "abs" = none) : FnOk P w K mg base CX0 (k + 1) f fd ["script", "k"] (spFeed K) := by
  refine F.ok scFeed (fun vs H Q E h => ?_) (fun cdv A outer s H vs Q E hr h => ?_)
  · obtain ⟨a, ns, z, rfl, _⟩ := h
    rfl
  · obtain ⟨a, ns, z, rfl, hS, h0, h1, q⟩ := h
    refine ⟨_, pss_cons (ps_set (i := 2) scFeed.nd rfl (.inl rfl) (pe_ifExp (pt_cmpR op_lt (pv 1) (pe_callB call_len_seq (by rfl) ml PySem.boot_len (pa_cons (pv 0) pa_nil)) (nomark _)) (pe_ix ix_list (pv 0) (pv 1) (fun _ _ => rfl)) (pe_op op_add (pe_op op_mul pe_int (pv 1)) pe_int)))
      (pss_cons (ps_set (i := 3) scFeed.nd rfl (.inl rfl) (pe_callB (call_max2 rfl) (by rfl) mm (by decide +kernel) (pa_cons pe_int (pa_cons (pe_op op_sub (pe_callB call_abs (by rfl) ma (by decide +kernel) (pa_cons (pv 2) pa_nil)) (pe_op op_pow pe_int pe_int)) pa_nil))))
      (pss_cons (ps_set (i := 4) scFeed.nd rfl (.inl rfl) (pe_op op_mod (pe_op op_add (pe_op op_add (pe_op op_mul (pv 2) pe_int) (pe_op op_mul pe_int (pv 1))) pe_int) pe_int))
      (pss_one (ps_ret (pe_lst (pa_cons (pv 3) (pa_cons (pv 4) pa_nil))))))), ?_⟩
    refine ⟨.int z, rfl, .ref a, rfl, a, ns.map V.int, rfl, .inl hS, z, _, rfl, rfl, _, rfl, ite2 (fun e => ?_) (fun e => ?_)⟩
    · have hz : z < ((ns.map V.int).length : Nat) := of_decide_eq_true e
      rw [List.length_map] at hz
      obtain ⟨j, rfl⟩ : ∃ j : Nat, z = (j : Int) := ⟨z.toNat, by omega⟩
      have hj : j < ns.length := by omega
      have gj : (ns.map V.int)[j]? = some (.int ns[j]) := by rw [List.getElem?_map, List.getElem?_eq_getElem hj]; rfl
      refine ⟨.ref a, rfl, .int j, rfl, a, _, _, _, rfl, rfl, hS, atI_nat gj, ?_⟩
      refine ⟨_, rfl, _, rfl, 10, 18, rfl, rfl, ⟨by decide, by decide, by decide⟩, _, _, rfl, rfl, 0, _, rfl, ?_⟩
      refine ⟨_, rfl, _, _, rfl, rfl, .inr ⟨by decide, by decide⟩, .int _, rfl, 7919, _, rfl, rfl, .inl ⟨by decide, by decide⟩, _, _, rfl, rfl, _, _, rfl, rfl, _, _, rfl, rfl, by show (0 : Int) < 2305843009213693951; decide, ?_⟩
      refine ⟨_, rfl, _, rfl, by show 2 ≤ sizeLine; decide, fun p np => q _ p (same_new np) np ⟨_, _, ?_, Int.emod_nonneg _ (by decide), Int.emod_lt_of_pos _ (by decide), upd_same⟩⟩
      split <;> omega
    · refine ⟨.int z, rfl, 83, z, rfl, rfl, .inl ⟨by decide, by decide⟩, _, _, rfl, rfl, ?_⟩
      refine ⟨_, rfl, _, rfl, 10, 18, rfl, rfl, ⟨by decide, by decide, by decide⟩, _, _, rfl, rfl, 0, _, rfl, ?_⟩
      refine ⟨_, rfl, _, _, rfl, rfl, .inr ⟨by decide, by decide⟩, .int _, rfl, 7919, _, rfl, rfl, .inl ⟨by decide, by decide⟩, _, _, rfl, rfl, _, _, rfl, rfl, _, _, rfl, rfl, by show (0 : Int) < 2305843009213693951; decide, ?_⟩
      refine ⟨_, rfl, _, rfl, by show 2 ≤ sizeLine; decide, fun p np => q _ p (same_new np) np ⟨_, _, ?_, Int.emod_nonneg _ (by decide), Int.emod_lt_of_pos _ (by decide), upd_same⟩⟩
      split <;> omega
def spTake : Sp := fun vs H Q _ => ∃ (f : Addr) (m : Int), vs = [.ref f, .int m] ∧ 0 < m ∧ m < 2 ^ 64 ∧ FeedAt H f ∧ ∀ H' r, Ch f H H' → FeedAt H' f → 0 ≤ r → r < m → Q (.int r) H'
theorem ok_take {f : Addr} {fd : FuncData} {k : Nat} (F : Fun K "_law_take" "_law_take" sTake f fd) : FnOk P w K mg base CX0 (k + 1) f fd ["feed", "many"] spTake := by
  refine F.ok scTake (fun vs H Q E h => ?_) (fun cdv A outer s H vs Q E hr h => ?_)
  · obtain ⟨a, m, rfl, _⟩ := h
    rfl
  · obtain ⟨f, m, rfl, m0, m1, ⟨d, st, d0, t0, t1, hf⟩, q⟩ := h
    refine ⟨_, pss_cons (ps_if (pt_cmpR op_gt (pe_ix ix_list (pv 0) pe_int (fun _ _ => rfl)) pe_int (nomark _))
        (pss_cons (ps_set (i := 2) scTake.nd rfl (.inl rfl) (pe_op op_mod (pe_ix ix_list (pv 0) pe_int (fun _ _ => rfl)) (pv 1)))
          (pss_cons (ps_asg (pe_op op_fdivW (pe_ix ix_list (pv 0) pe_int (fun _ _ => rfl)) (pv 1)) (pg_sub (pv 0) pe_int set_list)) (pss_one (ps_ret (pv 2))))) pss_nil)
      (pss_cons (ps_asg (pe_op op_mod (pe_op op_add (pe_op op_mul (pe_ix ix_list (pv 0) pe_int (fun _ _ => rfl)) pe_int) pe_int) pe_int) (pg_sub (pv 0) pe_int set_list))
      (pss_one (ps_ret (pe_op op_mod (pe_op op_fdiv (pe_ix ix_list (pv 0) pe_int (fun _ _ => rfl)) pe_int) (pv 1))))), ?_⟩
    have a0 : atI [V.int d, V.int st] 0 = some (.int d) := rfl
    have a1 : atI [V.int d, V.int st] 1 = some (.int st) := rfl
    refine ⟨.ref f, rfl, f, _, 0, .int d, rfl, rfl, SqL.of hf, a0, d, 0, rfl, rfl, _, rfl, ite2 (fun e => ?_) (fun e => ?_)⟩
    · have hd : d > 0 := of_decide_eq_true e
      refine ⟨.ref f, rfl, f, _, 0, .int d, rfl, rfl, SqL.of hf, a0, .int m, rfl, d, m, rfl, rfl, m0, ?_⟩
      refine ⟨.ref f, rfl, f, _, 0, .int d, rfl, rfl, SqL.of hf, a0, .int m, rfl, d, m, rfl, rfl, wide_div (b := 64) m0 (by omega) (by decide) (by decide), ?_⟩
      refine ⟨.ref f, rfl, f, _, 0, 0, rfl, rfl, hf, rfl, .int (d % m), rfl, ?_⟩
      refine q _ _ Ch.put ⟨d / m, st, Int.ediv_nonneg d0 (by omega), t0, t1, upd_same⟩ (Int.emod_nonneg _ (by omega)) (Int.emod_lt_of_pos _ m0)
    · refine ⟨.ref f, rfl, f, _, 1, .int st, rfl, rfl, SqL.of hf, a1, st, 6364136223846793005, rfl, rfl, .inr ⟨by decide, by decide⟩, _, _, rfl, rfl, _, _, rfl, rfl, by show (0 : Int) < 2305843009213693951; decide, ?_⟩
      refine ⟨.ref f, rfl, f, _, 1, 1, rfl, rfl, hf, rfl, ?_⟩
      refine ⟨.ref f, rfl, f, _, 1, _, rfl, rfl, SqL.of upd_same, rfl, _, 65536, rfl, rfl, ⟨by decide, by decide⟩, .int m, rfl, _, m, rfl, rfl, m0, ?_⟩
      exact q _ _ Ch.put ⟨d, _, d0, Int.emod_nonneg _ (by decide), Int.emod_lt_of_pos _ (by decide), upd_same⟩ (Int.emod_nonneg _ (by omega)) (Int.emod_lt_of_pos _ m0)
def spPick (K : PySem.W.Frag) : Sp := fun vs H Q _ => ∃ (f c : Addr) (xs : List V), vs = [.ref f, .ref c] ∧ c ≠ f ∧ SqL K H c xs ∧ 0 < xs.length ∧ xs.length ≤ 1000 ∧ FeedAt H f ∧
  ∀ H' (j : Nat) v, xs[j]? = some v → Ch f H H' → FeedAt H' f → Q v H'
theorem ok_pick {f fT : Addr} {fd fdT : FuncData} {k : Nat} (F : Fun K "_law_pick" "_law_pick" sPick f fd) (FT : Fun K "_law_take" "_law_take" sTake fT fdT) (gT : mg "_law_take" = some (.ref fT)) (bT : Binds K fdT ["feed", "many"] []) (ml : mg "len" = none) :
    FnOk P w K mg base CX0 (k + 2) f fd ["feed", "some"] (spPick K) := by
  have GT : FnOk P w K mg base CX0 (k + 1) fT fdT ["feed", "many"] spTake := ok_take FT
  refine F.ok scPick (fun vs H Q E h => ?_) (fun cdv A outer s H vs Q E hr h => ?_)
  · obtain ⟨a, m, xs, rfl, _⟩ := h
    rfl
  · obtain ⟨f, c, xs, rfl, ncf, hS, l0, l1, hf, q⟩ := h
    refine ⟨_, pss_one (ps_ret (pe_ix ix_list (pv 1) (pe_call GT hr (by rfl) gT FT.kp bT .nil pass0 (pa_cons (pv 0) (pa_cons (pe_callB call_len_seq (by rfl) ml PySem.boot_len (pa_cons (pv 1) pa_nil)) pa_nil))) (fun _ _ => rfl))), ?_⟩
    refine ⟨.ref c, rfl, .ref f, rfl, .ref c, rfl, c, xs, rfl, .inl hS, f, _, rfl, by omega, by omega, hf, fun H' r ch fe r0 r1 => ?_⟩
    obtain ⟨j, rfl⟩ : ∃ j : Nat, r = (j : Int) := ⟨r.toNat, by omega⟩
    have hj : j < xs.length := by omega
    exact ⟨c, xs, _, xs[j], rfl, rfl, ch.seq ncf hS, atI_nat (List.getElem?_eq_getElem hj), q H' j _ (List.getElem?_eq_getElem hj) ch fe⟩
end
end KD

/-! the program's turning points and swings -/
namespace PA
open PySem PySem.Spec PyProof.Rows L2 KA PH PM
abbrev sCont : Stmt := topS 7
abbrev sRng : Stmt := topS 8
abbrev sTP : Stmt := topS 9
abbrev sBtw : Stmt := topS 11
abbrev sLO : Stmt := topS 10
abbrev sSw : Stmt := topS 12
theorem scCont : FnScope ["outer", "inner"] ["outer", "inner"] (defScope sCont) := ⟨rfl, rfl, rfl, by decide +kernel, rfl, by decide +kernel, by decide +kernel⟩
theorem scRng : FnScope ["one", "other"] ["one", "other"] (defScope sRng) := ⟨rfl, rfl, rfl, by decide +kernel, rfl, by decide +kernel, by decide +kernel⟩
theorem scTP : FnScope ["load", "points", "reading"] ["load"] (defScope sTP) := ⟨rfl, rfl, rfl, by decide +kernel, rfl, by decide +kernel, by decide +kernel⟩
theorem scLO : FnScope ["points", "reading", "last"] ["points", "reading"] (defScope sLO) := ⟨rfl, rfl, rfl, by decide +kernel, rfl, by decide +kernel, by decide +kernel⟩
theorem scBtw : FnScope ["reading", "before", "after"] ["reading", "before", "after"] (defScope sBtw) := ⟨rfl, rfl, rfl, by decide +kernel, rfl, by decide +kernel, by decide +kernel⟩
theorem scSw : FnScope ["load", "points", "one", "other"] ["load"] (defScope sSw) := ⟨rfl, rfl, rfl, by decide +kernel, rfl, by decide +kernel, by decide +kernel⟩
section
variable {P : Program} {w : World} {K : PySem.W.Frag} {mg : Str → Option Value} {base : Heap}
def spCont (K : PySem.W.Frag) : Sp := fun vs H Q _ => ∃ (p q : Addr) (a b c d : Int), vs = [.ref p, .ref q] ∧ SqT K H p [.int a, .int b] ∧ SqT K H q [.int c, .int d] ∧ Q (.bl (decide (a ≤ c) && decide (d ≤ b))) H
theorem ok_Cont {f : Addr} {fd : FuncData} {k : Nat} (F : Fun K "contains" "contains" sCont f fd) : FnOk P w K mg base CX0 (k + 1) f fd ["outer", "inner"] (spCont K) := by
  refine F.ok scCont (fun vs H Q E h => ?_) (fun cdv A outer s H vs Q E hr h => ?_)
  · obtain ⟨p, q, a, b, c, d, rfl, _⟩ := h
    rfl
  · obtain ⟨p, q, a, b, c, d, rfl, h1, h2, hq⟩ := h
    refine ⟨_, pss_one (ps_ret (pe_and (pe_cmpR op_le (pe_ix ix_tup (pv 0) pe_int (fun _ _ => rfl)) (pe_ix ix_tup (pv 1) pe_int (fun _ _ => rfl)) (nomark _)) (pe_one (pe_cmpR op_le (pe_ix ix_tup (pv 1) pe_int (fun _ _ => rfl)) (pe_ix ix_tup (pv 0) pe_int (fun _ _ => rfl)) (nomark _))))), ?_⟩
    refine ⟨.ref p, rfl, p, _, 0, .int a, rfl, rfl, h1, rfl, .ref q, rfl, q, _, 0, .int c, rfl, rfl, h2, rfl, a, c, rfl, rfl, _, rfl, ?_⟩
    by_cases e : a ≤ c
    · rw [decide_eq_true e] at hq ⊢
      exact iteT ⟨.ref q, rfl, q, _, 1, .int d, rfl, rfl, h2, rfl, .ref p, rfl, p, _, 1, .int b, rfl, rfl, h1, rfl, d, b, rfl, rfl, hq⟩
    · rw [decide_eq_false e] at hq ⊢
      exact iteF hq
def spRng : Sp := fun vs H Q _ => ∃ (a b : Int), vs = [.int a, .int b] ∧ ∀ p, H p = none → Q (.ref p) (upd H p (.tup [.int (rg a b).1, .int (rg a b).2]))
theorem ok_Rng {f : Addr} {fd : FuncData} {k : Nat} (F : Fun K "range_of" "range_of" sRng f fd) (mn : mg "min" = none) (mx : mg "max" = none) : FnOk P w K mg base CX0 (k + 1) f fd ["one", "other"] spRng := by
  refine F.ok scRng (fun vs H Q E h => ?_) (fun cdv A outer s H vs Q E hr h => ?_)
  · obtain ⟨a, b, rfl, _⟩ := h
    rfl
  · obtain ⟨a, b, rfl, hq⟩ := h
    refine ⟨_, pss_one (ps_ret (pe_tup (pa_cons (pe_callB (call_min2 rfl) (by rfl) mn (by decide +kernel) (pa_cons (pv 0) (pa_cons (pv 1) pa_nil))) (pa_cons (pe_callB (call_max2 rfl) (by rfl) mx (by decide +kernel) (pa_cons (pv 0) (pa_cons (pv 1) pa_nil))) pa_nil)))), ?_⟩
    exact ⟨.int a, rfl, .int b, rfl, a, b, rfl, .int a, rfl, .int b, rfl, a, b, rfl, by show 2 ≤ sizeLine; decide, fun p np => hq p np⟩
def spBtw : Sp := fun vs H Q _ => ∃ (r b a : Int), vs = [.int r, .int b, .int a] ∧ Q (.bl (decide (Btw r b a))) H
theorem ok_btw {f : Addr} {fd : FuncData} {k : Nat} (F : Fun K "_lies_between" "_lies_between" sBtw f fd) : FnOk P w K mg base CX0 (k + 1) f fd ["reading", "before", "after"] spBtw := by
  refine F.ok scBtw (fun vs H Q E h => ?_) (fun cdv A outer s H vs Q E hr h => ?_)
  · obtain ⟨r, b, a, rfl, _⟩ := h
    rfl
  · obtain ⟨r, b, a, rfl, hq⟩ := h
    refine ⟨_, pss_one (ps_ret (pe_or (pe_chain op_lt op_lt (pv 1) (pv 0) (pv 2)) (pe_one (pe_chain op_lt op_lt (pv 2) (pv 0) (pv 1))))), ?_⟩
    refine ⟨.int b, rfl, .int r, rfl, b, r, rfl, rfl, _, rfl, ?_⟩
    have second : ¬ (b < r ∧ r < a) → tOrV (fun _ H Q => Q (.bl false) H) (tChain (fun x y H Q => ∃ i j, x = .int i ∧ y = .int j ∧ Q (.bl (decide (i < j))) H) (fun x y H Q => ∃ i j, x = .int i ∧ y = .int j ∧ Q (.bl (decide (i < j))) H) (tVar 2) (tVar 0) (tVar 1)) [some (.int r), some (.int b), some (.int a)] H Q := by
      intro hn
      refine ⟨false, rfl, iteF ⟨.int a, rfl, .int r, rfl, a, r, rfl, rfl, _, rfl, ?_⟩⟩
      by_cases e : a < r
      · rw [decide_eq_true e]
        refine iteT ⟨.int b, rfl, r, b, rfl, rfl, ?_⟩
        have e2 : decide (Btw r b a) = decide (r < b) := by rw [decide_eq_decide]; omega
        rw [e2] at hq
        exact hq
      · rw [decide_eq_false e]
        have e2 : decide (Btw r b a) = false := decide_eq_false (by omega)
        rw [e2] at hq
        exact iteF hq
    by_cases e : b < r
    · rw [decide_eq_true e]
      refine iteT ⟨.int a, rfl, r, a, rfl, rfl, _, rfl, ?_⟩
      by_cases e2 : r < a
      · rw [decide_eq_true e2]
        have e3 : decide (Btw r b a) = true := decide_eq_true (.inl ⟨e, e2⟩)
        rw [e3] at hq
        exact iteT hq
      · rw [decide_eq_false e2]
        obtain ⟨_, h1, h2⟩ := second (fun z => e2 z.2)
        cases h1
        exact h2
    · rw [decide_eq_false e]
      obtain ⟨_, h1, h2⟩ := second (fun z => e z.1)
      cases h1
      exact iteF ⟨false, rfl, h2⟩
end
end PA

/-! places, sorted pairs, the stack's turns -/
namespace RN
open PM RM
def takenAt (ps : List Int) (i : Nat) : Bool := match ps.drop i with
  | a :: b :: c :: d :: _ => decide (Taken a b c d)
  | _ => false
theorem taken_here {ps : List Int} {i : Nat} (h : takenAt ps i = true) : ∃ pre a b c d post, ps = pre ++ a :: b :: c :: d :: post ∧ pre.length = i ∧ Taken a b c d := by
  unfold takenAt at h
  split at h
  · rename_i a b c d post e
    refine ⟨ps.take i, a, b, c, d, post, by rw [← e, List.take_append_drop], ?_, of_decide_eq_true h⟩
    have : (ps.drop i).length = post.length + 4 := by rw [e]; simp
    rw [List.length_drop] at this
    rw [List.length_take]
    omega
  · cases h
theorem taken_get {ps : List Int} {i : Nat} {a b c d : Int} (h0 : ps[i]? = some a) (h1 : ps[i + 1]? = some b) (h2 : ps[i + 2]? = some c) (h3 : ps[i + 3]? = some d) : takenAt ps i = decide (Taken a b c d) := by
  have e : ∀ {j : Nat} {r : Int}, ps[j]? = some r → ps.drop j = r :: ps.drop (j + 1) := fun {j r} h => by
    obtain ⟨k1, k2⟩ := List.getElem?_eq_some_iff.mp h
    rw [List.drop_eq_getElem_cons k1, k2]
  unfold takenAt
  rw [e h0, e h1, e h2, e h3]
theorem taken_lt {ps : List Int} {i : Nat} (h : takenAt ps i = true) : i < ps.length - 3 := by
  obtain ⟨pre, a, b, c, d, post, e, hl, _⟩ := taken_here h
  rw [e]
  simp only [List.length_append, List.length_cons]
  omega
theorem step_at {ps q : List Int} {cy : Int × Int} (h : Step ps cy q) : ∃ i, takenAt ps i = true := by
  induction h with
  | here t => exact ⟨0, decide_eq_true t⟩
  | there _ ih =>
    obtain ⟨i, e⟩ := ih
    exact ⟨i + 1, e⟩
def plc (ps : List Int) : List Int := ((List.range (ps.length - 3)).filter (takenAt ps)).map fun (i : Nat) => (i : Int) + 1
theorem plc_mem {ps : List Int} {x : Int} (h : x ∈ plc ps) : ∃ i : Nat, x = (i : Int) + 1 ∧ takenAt ps i = true := by
  obtain ⟨i, hi, e⟩ := List.mem_map.mp h
  exact ⟨i, e.symm, (List.mem_filter.mp hi).2⟩
theorem nf_of_plc {ps : List Int} (h : plc ps = []) : NF ps := by
  intro c q s
  obtain ⟨i, e⟩ := step_at s
  have : (i : Int) + 1 ∈ plc ps := List.mem_map.mpr ⟨i, List.mem_filter.mpr ⟨List.mem_range.mpr (taken_lt e), e⟩, rfl⟩
  rw [h] at this
  cases this
theorem plc_of_nf {ps : List Int} (h : NF ps) : plc ps = [] := by
  cases e : plc ps with
  | nil => rfl
  | cons x l =>
    have hx : x ∈ plc ps := by rw [e]; exact List.mem_cons_self
    obtain ⟨i, _, t⟩ := plc_mem hx
    obtain ⟨pre, a, b, c, d, post, e2, _, tk⟩ := taken_here t
    rw [e2] at h
    exact absurd ((Step.here tk).prefix pre) (h _ _)
theorem Run.suffix {p q : List Int} {cs : List (Int × Int)} (h : Run p cs q) (l : List Int) : Run (p ++ l) cs (q ++ l) := by
  induction h with
  | nil p => exact .nil _
  | cons s _ ih => exact .cons (s.suffix l) ih
theorem Run.ends {p r : List Int} {cs : List (Int × Int)} (h : Run p cs r) : (cs = [] ∧ p = r) ∨ 2 ≤ r.length := by
  induction h with
  | nil p => exact .inl ⟨rfl, rfl⟩
  | @cons p q r c cs s h ih =>
    refine .inr ?_
    rcases ih with ⟨_, e⟩ | e
    · subst e
      have : ∀ {p q : List Int} {c : Int × Int}, Step p c q → 2 ≤ q.length := by
        intro p q c s
        induction s with
        | here _ => simp only [List.length_cons]; omega
        | there _ ih => simp only [List.length_cons]; omega
      exact this s
    · exact e
theorem tq_zig : ∀ (l : List Int) (b a : Int), ZZ (b :: a :: l) → tq b a l = a :: l
  | [], _, _, _ => rfl
  | r :: l, b, a, z => by
    have h1 := z.1
    simp only [tq]
    rw [if_neg (by omega), if_neg (by omega), tq_zig l a r z.2]
theorem zz_tp {ps : List Int} (z : ZZ ps) : tp ps = ps := by
  match ps, z with
  | [], _ => rfl
  | [x], _ => rfl
  | x :: y :: l, z =>
    show ts x (y :: l) = _
    simp only [ts]
    rw [if_neg (zz_cons z), tq_zig l x y z]
/-- pairs in their order -/
abbrev Le (r s : Int × Int) : Prop := r.1 < s.1 ∨ (r.1 = s.1 ∧ r.2 ≤ s.2)
theorem le_anti {r s : Int × Int} (h1 : Le r s) (h2 : Le s r) : r = s := by
  obtain ⟨a, b⟩ := r
  obtain ⟨c, d⟩ := s
  have e1 : a = c := by simp only [Le] at h1 h2; omega
  have e2 : b = d := by simp only [Le] at h1 h2; omega
  rw [e1, e2]
theorem sorted_same : ∀ {l m : List (Int × Int)}, l.Perm m → l.Pairwise Le → m.Pairwise Le → l = m
  | [], m, h, _, _ => (List.Perm.nil_eq h)
  | x :: l, m, h, h1, h2 => by
    cases m with
    | nil => exact absurd h.length_eq (by simp)
    | cons y m =>
      have hx := List.pairwise_cons.mp h1
      have hy := List.pairwise_cons.mp h2
      have e : x = y := by
        have m1 : x ∈ y :: m := h.mem_iff.mp List.mem_cons_self
        have m2 : y ∈ x :: l := h.mem_iff.mpr List.mem_cons_self
        rcases List.mem_cons.mp m1 with e | e
        · exact e
        · rcases List.mem_cons.mp m2 with e' | e'
          · exact e'.symm
          · exact le_anti (hx.1 y e') (hy.1 x e)
      subst e
      rw [sorted_same ((List.perm_cons x).mp h) hx.2 hy.2]
end RN

/-! readings put behind a rest one by one -/
namespace RS
open PM RM RN
/-- the last of some points is none any more with a reading behind it -/
def lo : List Int → Int → Bool
  | [], _ => false
  | [u], r => decide (u = r)
  | [b, u], r => decide (u = r) || decide (Btw u b r)
  | _ :: u :: v :: t, r => lo (u :: v :: t) r
def push : List Int → Int → List Int
  | [], r => [r]
  | [u], r => if u = r then [r] else [u, r]
  | [b, u], r => if u = r ∨ Btw u b r then [b, r] else [b, u, r]
  | b :: u :: v :: t, r => b :: push (u :: v :: t) r
theorem lo_two : ∀ (dn : List Int) (b u r : Int), lo (dn ++ [b, u]) r = (decide (u = r) || decide (Btw u b r))
  | [], _, _, _ => rfl
  | [x], _, _, _ => rfl
  | x :: y :: dn, b, u, r => by
    have h := lo_two (y :: dn) b u r
    cases dn with
    | nil => exact h
    | cons z dn => exact h
theorem push_lo : ∀ (p : List Int) (r : Int), push p r = (if lo p r = true then p.dropLast else p) ++ [r]
  | [], _ => rfl
  | [u], r => by
    simp only [push, lo, decide_eq_true_eq]
    split <;> simp
  | [b, u], r => by
    simp only [push, lo, Bool.or_eq_true, decide_eq_true_eq]
    split <;> simp
  | b :: u :: v :: t, r => by
    have h := push_lo (u :: v :: t) r
    simp only [push, lo]
    rw [h]
    by_cases e : lo (u :: v :: t) r = true
    · simp [e]
    · simp [e]
theorem push_two (dn : List Int) (b u r : Int) : push (dn ++ [b, u]) r = if u = r ∨ Btw u b r then dn ++ [b, r] else dn ++ [b, u, r] := by
  rw [push_lo, lo_two]
  simp only [Bool.or_eq_true, decide_eq_true_eq]
  split
  · rw [show dn ++ [b, u] = (dn ++ [b]) ++ [u] by simp, List.dropLast_concat]; simp
  · simp
theorem push_cons (b : Int) : ∀ {p : List Int} (r : Int), 2 ≤ p.length → push (b :: p) r = b :: push p r
  | [], _, h => by simp at h
  | [_], _, h => by simp at h
  | _ :: _ :: _, _, _ => rfl
theorem tq_ne (b a : Int) : ∀ l, 1 ≤ (tq b a l).length
  | [] => Nat.le_refl _
  | r :: l => by
    simp only [tq]
    split
    · exact tq_ne b a l
    · split
      · exact tq_ne b r l
      · simp
theorem tq_push : ∀ (l : List Int) (b a r : Int), b :: tq b a (l ++ [r]) = push (b :: tq b a l) r
  | [], b, a, r => by
    show b :: tq b a [r] = push [b, a] r
    simp only [tq, push]
    by_cases e : a = r
    · rw [if_pos e, if_pos (Or.inl e), e]
    · rw [if_neg e]
      by_cases bt : Btw a b r
      · rw [if_pos bt, if_pos (Or.inr bt)]
      · rw [if_neg bt, if_neg (fun z => z.elim e bt)]
  | x :: l, b, a, r => by
    simp only [List.cons_append, tq]
    by_cases e : a = x
    · rw [if_pos e, if_pos e]
      exact tq_push l b a r
    · rw [if_neg e, if_neg e]
      by_cases bt : Btw a b x
      · rw [if_pos bt, if_pos bt]
        exact tq_push l b x r
      · rw [if_neg bt, if_neg bt, tq_push l a x r, push_cons b r (by have := tq_ne a x l; simp; omega)]
theorem ts_push : ∀ (l : List Int) (a r : Int), ts a (l ++ [r]) = push (ts a l) r
  | [], a, r => by
    show ts a [r] = push [a] r
    simp only [ts, push]
    by_cases e : a = r
    · rw [if_pos e, if_pos e, e]
    · rw [if_neg e, if_neg e]
      rfl
  | x :: l, a, r => by
    simp only [List.cons_append, ts]
    by_cases e : a = x
    · rw [if_pos e, if_pos e]
      exact ts_push l a r
    · rw [if_neg e, if_neg e]
      exact tq_push l a x r
theorem tp_push (l : List Int) (r : Int) : tp (l ++ [r]) = push (tp l) r := by
  cases l with
  | nil => rfl
  | cons a l => exact ts_push l a r
theorem tp_take {ns : List Int} {i : Nat} {r : Int} (h : ns[i]? = some r) : tp (ns.take (i + 1)) = push (tp (ns.take i)) r := by
  rw [List.take_add_one, h]
  exact tp_push _ _
/-- with points that go up and down, so they go on -/
theorem zz_push {p : List Int} (r : Int) (h : ZZ p) : ZZ (push p r) := by
  have e := tp_push p r
  rw [zz_tp h] at e
  rw [← e]
  exact tp_zz _
theorem taken_abs {a b c d : Int} (h : ZZ (a :: b :: c :: d :: [])) : Taken a b c d ↔ (((b - a).natAbs : Int) ≥ ((c - b).natAbs : Int) ∧ ((d - c).natAbs : Int) ≥ ((c - b).natAbs : Int)) := by
  rw [taken_iff h]
  have h1 := h.1
  have h2 := h.2.1
  omega
theorem zz_at {ps : List Int} : ZZ ps → ∀ {i : Nat} {a b c d : Int}, ps[i]? = some a → ps[i + 1]? = some b → ps[i + 2]? = some c → ps[i + 3]? = some d → ZZ [a, b, c, d] := by
  intro h
  induction ps with
  | nil => intro i a b c d h0; cases h0
  | cons x p ih =>
    intro i a b c d h0 h1 h2 h3
    cases i with
    | succ i => exact ih h.tail h0 h1 h2 h3
    | zero =>
      match p, h, h1, h2, h3 with
      | y :: z :: u :: t, h, h1, h2, h3 =>
        obtain rfl := Option.some.inj h0
        obtain rfl := Option.some.inj h1
        obtain rfl := Option.some.inj h2
        obtain rfl := Option.some.inj h3
        exact h.four
theorem zz_mid {pre : List Int} {a b c d : Int} {post : List Int} (h : ZZ (pre ++ a :: b :: c :: d :: post)) : ZZ [a, b, c, d] := by
  induction pre with
  | nil => exact h.four
  | cons x p ih => exact ih h.tail
theorem zz_mid3 {pre : List Int} {a b c : Int} {post : List Int} (h : ZZ (pre ++ a :: b :: c :: post)) : ((a < b ∧ c < b) ∨ (b < a ∧ b < c)) := by
  induction pre with
  | nil => exact h.1
  | cons x p ih => exact ih h.tail
theorem step_on {p q : List Int} {cy : Int × Int} (s : Step p cy q) : ∀ {m : List Int} {b u : Int}, p = m ++ [b, u] → ZZ p →
    ∃ m' b', q = m' ++ [b', u] ∧ (b < u ↔ b' < u) ∧ (u < b ↔ u < b') ∧ ∀ r, (b < u → u ≤ r) → (u < b → r ≤ u) → Step (m ++ [b, r]) cy (m' ++ [b', r]) := by
  induction s with
  | @here a b1 c d post t =>
    intro m b u e z
    have ti := (taken_iff z.four).mp t
    rcases List.eq_nil_or_concat post with rfl | ⟨post1, y, rfl⟩
    · have e2 : [a, b1] ++ [c, d] = m ++ [b, u] := e
      obtain ⟨rfl, e4⟩ := List.append_inj' e2 rfl
      injection e4 with e5 e6
      injection e6 with e6 _
      subst e5 e6
      refine ⟨[], a, rfl, by omega, by omega, fun r h1 h2 => ?_⟩
      have zr : ZZ [a, b1, c, r] := ⟨z.1, by have := z.2.1; constructor; have := z.1; omega; show c ≠ r; omega⟩
      exact .here ((taken_iff zr).mpr (by omega))
    · rcases List.eq_nil_or_concat post1 with rfl | ⟨post2, x, rfl⟩
      · have e2 : [a, b1, c] ++ [d, y] = m ++ [b, u] := e
        obtain ⟨rfl, e4⟩ := List.append_inj' e2 rfl
        injection e4 with e5 e6
        injection e6 with e6 _
        subst e5 e6
        exact ⟨[a], d, rfl, Iff.rfl, Iff.rfl, fun r _ _ => .here t⟩
      · have e2 : (a :: b1 :: c :: d :: post2) ++ [x, y] = m ++ [b, u] := by rw [← e]; simp
        obtain ⟨rfl, e4⟩ := List.append_inj' e2 rfl
        injection e4 with e5 e6
        injection e6 with e6 _
        subst e5 e6
        exact ⟨a :: d :: post2, x, by simp, Iff.rfl, Iff.rfl, fun r _ _ => .here t⟩
  | @there x p q cy s ih =>
    intro m b u e z
    cases m with
    | nil =>
      have hl := s.len
      injection e with _ e
      rw [e] at hl
      simp at hl
    | cons y m =>
      injection e with e1 e2
      subst e1
      obtain ⟨m', b', h1, h2, h3, h4⟩ := ih e2 z.tail
      exact ⟨x :: m', b', by rw [h1]; rfl, h2, h3, fun r k1 k2 => .there (h4 r k1 k2)⟩
theorem run_on {p q : List Int} {cs : List (Int × Int)} (h : Run p cs q) : ∀ {m : List Int} {b u : Int}, p = m ++ [b, u] → ZZ p →
    ∃ m' b', q = m' ++ [b', u] ∧ (b < u ↔ b' < u) ∧ (u < b ↔ u < b') ∧ ∀ r, (b < u → u ≤ r) → (u < b → r ≤ u) → Run (m ++ [b, r]) cs (m' ++ [b', r]) := by
  induction h with
  | nil p => exact fun {m b u} e z => ⟨m, b, e, Iff.rfl, Iff.rfl, fun r _ _ => .nil _⟩
  | @cons p q r0 c cs s run ih =>
    intro m b u e z
    obtain ⟨m1, b1, h1, h2, h3, h4⟩ := step_on s e z
    obtain ⟨m2, b2, k1, k2, k3, k4⟩ := ih h1 (ZZ.step s z)
    exact ⟨m2, b2, k1, h2.trans k2, h3.trans k3, fun r j1 j2 => .cons (h4 r j1 j2) (k4 r (fun z => j1 (h2.mpr z)) (fun z => j2 (h3.mpr z)))⟩
theorem step_two {p q : List Int} {c : Int × Int} (s : Step p c q) : 2 ≤ q.length := by
  induction s with
  | here _ => simp only [List.length_cons]; omega
  | there _ ih => simp only [List.length_cons]; omega
theorem two_last {p : List Int} (h : 2 ≤ p.length) : ∃ m b u, p = m ++ [b, u] := by
  rcases List.eq_nil_or_concat p with rfl | ⟨m1, d, rfl⟩
  · simp at h
  · rcases List.eq_nil_or_concat m1 with rfl | ⟨m2, c, rfl⟩
    · simp at h
    · exact ⟨m2, c, d, by simp⟩
/-- a reading behind a load is a reading behind its rest -/
theorem run_push {p q : List Int} {cs : List (Int × Int)} (h : Run p cs q) (z : ZZ p) (r : Int) : Run (push p r) cs (push q r) := by
  by_cases h2 : 2 ≤ p.length
  · obtain ⟨m, b, u, rfl⟩ := two_last h2
    obtain ⟨m', b', rfl, e1, e2, e3⟩ := run_on h rfl z
    rw [push_two, push_two]
    by_cases hb : u = r ∨ Btw u b r
    · have hb' : u = r ∨ Btw u b' r := hb.imp id (fun k => by omega)
      rw [if_pos hb, if_pos hb']
      exact e3 r (fun k => by omega) (fun k => by omega)
    · have hb' : ¬ (u = r ∨ Btw u b' r) := fun k => hb (k.imp id (fun k => by omega))
      rw [if_neg hb, if_neg hb']
      have := RN.Run.suffix h [r]
      simpa using this
  · cases h with
    | nil _ => exact .nil _
    | cons s _ =>
      have := s.len
      have := step_two s
      exact absurd (show 2 ≤ p.length by omega) h2
theorem Run.append {p q r : List Int} {cs ds : List (Int × Int)} (h : Run p cs q) (k : Run q ds r) : Run p (cs ++ ds) r := by
  induction h with
  | nil p => exact k
  | cons s _ ih => exact .cons s (ih k)
/-- one reading more -/
theorem stream {ns : List Int} {i : Nat} {r : Int} {cs cs2 : List (Int × Int)} {rs rs2 : List Int} (hr : ns[i]? = some r) (h : Run (tp (ns.take i)) cs rs) (k : Run (push rs r) cs2 rs2) : Run (tp (ns.take (i + 1))) (cs ++ cs2) rs2 := by
  rw [tp_take hr]
  exact Run.append (run_push h (tp_zz _) r) k
theorem push_len (p : List Int) (r : Int) : (push p r).length ≤ p.length + 1 := by
  rw [push_lo]
  split <;> simp
end RS

/-! turning_points, swings -/
namespace PB
open PySem PySem.Spec PyProof.Rows L2 KA PH PM PA RM RS
theorem atI_last2 (xs : List V) (u v : V) : atI (xs ++ [u] ++ [v]) (-2) = some u := by
  have hl : (xs ++ [u] ++ [v]).length = xs.length + 2 := by simp
  have h : ixN (xs ++ [u] ++ [v]).length (-2) = some xs.length := by
    unfold ixN
    rw [hl, if_neg (by decide), if_pos (by omega)]
    congr 1
    omega
  unfold atI
  rw [h]
  show (xs ++ [u] ++ [v])[xs.length]? = some u
  simp
theorem drop_at {ns : List Int} {i : Nat} {r : Int} (h : ns[i]? = some r) : ns.drop i = r :: ns.drop (i + 1) := by
  obtain ⟨h1, h2⟩ := List.getElem?_eq_some_iff.mp h
  rw [List.drop_eq_getElem_cons h1, h2]
section
variable {P : Program} {w : World} {K : PySem.W.Frag} {mg : Str → Option Value} {base : Heap}
def spTPl (K : PySem.W.Frag) : Sp := fun vs H Q _ => ∃ (a : Addr) (ns : List Int), vs = [.ref a] ∧ SqL K H a (ns.map V.int) ∧ ns.length ≤ 2500 ∧ ∀ H' p, Same H H' → H p = none → H' p = some (.tup ((tp ns).map V.int)) → Q (.ref p) H'
def spTPt (K : PySem.W.Frag) : Sp := fun vs H Q _ => ∃ (a : Addr) (ns : List Int), vs = [.ref a] ∧ SqT K H a (ns.map V.int) ∧ ns.length ≤ 2500 ∧ ∀ H' p, Same H H' → H p = none → H' p = some (.tup ((tp ns).map V.int)) → Q (.ref p) H'
abbrev spTP (K : PySem.W.Frag) : Sp := fun vs H Q E => spTPl K vs H Q E ∨ spTPt K vs H Q E
def spLO (K : PySem.W.Frag) : Sp := fun vs H Q _ => ∃ (a : Addr) (ps : List Int) (r : Int), vs = [.ref a, .int r] ∧ SqL K H a (ps.map V.int) ∧ Q (.bl (lo ps r)) H
theorem ends3 (ps : List Int) : ps = [] ∨ (∃ u, ps = [u]) ∨ ∃ dn b u, ps = dn ++ [b, u] := by
  rcases List.eq_nil_or_concat ps with h | ⟨m1, d, h⟩
  · exact .inl h
  · rcases List.eq_nil_or_concat m1 with h1 | ⟨m2, c, h1⟩
    · subst h1
      exact .inr (.inl ⟨d, by rw [h]; rfl⟩)
    · subst h1
      exact .inr (.inr ⟨m2, c, d, by rw [h]; simp⟩)
theorem ok_LO {f fB : Addr} {fd fdB : FuncData} {k : Nat} (F : Fun K "is_left_out" "is_left_out" sLO f fd) (FB : Fun K "_lies_between" "_lies_between" sBtw fB fdB) (gB : mg "_lies_between" = some (.ref fB)) (bB : Binds K fdB ["reading", "before", "after"] [])
    (ml : mg "len" = none) : FnOk P w K mg base CX0 (k + 2) f fd ["points", "reading"] (spLO K) := by
  have GB : FnOk P w K mg base CX0 (k + 1) fB fdB ["reading", "before", "after"] spBtw := ok_btw FB
  refine F.ok scLO (fun vs H Q E h => ?_) (fun cdv A outer s H vs Q E hr h => ?_)
  · obtain ⟨a, ps, r, rfl, _⟩ := h
    rfl
  · obtain ⟨a, ps, r, rfl, hS, hq⟩ := h
    refine ⟨_, pss_cons (ps_if (pt_not (pt_truth (pv 0) (by intro _; rfl))) (pss_one (ps_ret pe_bl)) pss_nil)
      (pss_cons (ps_set (i := 2) scLO.nd rfl (.inl rfl) (pe_ix ix_list (pv 0) (pe_un un_neg pe_int) (fun _ _ => rfl)))
      (pss_one (ps_ret (pe_or (pe_cmpR op_eq (pv 2) (pv 1) (nomark _)) (pe_one (pe_and (pe_cmpR op_gt (pe_callB call_len_seq (by rfl) ml PySem.boot_len (pa_cons (pv 0) pa_nil)) pe_int (nomark _))
        (pe_one (pe_call GB hr (by rfl) gB FB.kp bB .nil pass0 (pa_cons (pv 2) (pa_cons (pe_ix ix_list (pv 0) (pe_un un_neg pe_int) (fun _ _ => rfl)) (pa_cons (pv 1) pa_nil))))))))))), ?_⟩
    rcases ends3 ps with rfl | ⟨u, rfl⟩ | ⟨dn, b, u, rfl⟩
    · refine ⟨.ref a, rfl, false, .inl ⟨[], hS, rfl⟩, ?_⟩
      refine iteT ?_
      exact hq
    · refine ⟨.ref a, rfl, true, .inl ⟨[.int u], hS, rfl⟩, ?_⟩
      refine iteF ?_
      refine ⟨.ref a, rfl, 1, rfl, a, _, -1, .int u, rfl, rfl, hS, rfl, .int u, rfl, .int r, rfl, rfl, _, rfl, ?_⟩
      by_cases e : u = r
      · rw [show lo [u] r = true from decide_eq_true e] at hq
        rw [decide_eq_true (show V.int u = V.int r by rw [e])]
        exact iteT hq
      · rw [show lo [u] r = false from decide_eq_false e] at hq
        rw [decide_eq_false (show ¬ V.int u = V.int r from fun z => e (V.int.inj z))]
        exact iteF ⟨.ref a, rfl, a, _, rfl, .inl hS, _, _, rfl, rfl, _, rfl, iteF hq⟩
    · have em : ((dn ++ [b, u]).map V.int) = (dn.map V.int ++ [V.int b]) ++ [V.int u] := by simp
      rw [em] at hS
      have e0 : (!((dn.map V.int ++ [V.int b]) ++ [V.int u]).isEmpty) = true := by cases dn <;> rfl
      have hL : ((dn.map V.int ++ [V.int b]) ++ [V.int u]).length = dn.length + 2 := by simp
      rw [lo_two] at hq
      refine ⟨.ref a, rfl, true, .inl ⟨_, hS, e0.symm⟩, ?_⟩
      refine iteF ?_
      refine ⟨.ref a, rfl, 1, rfl, a, _, -1, .int u, rfl, rfl, hS, atI_last _ _, .int u, rfl, .int r, rfl, rfl, _, rfl, ?_⟩
      by_cases e : u = r
      · rw [decide_eq_true e, Bool.true_or] at hq
        rw [decide_eq_true (show V.int u = V.int r by rw [e])]
        exact iteT hq
      · rw [decide_eq_false e, Bool.false_or] at hq
        rw [decide_eq_false (show ¬ V.int u = V.int r from fun z => e (V.int.inj z))]
        have h2 : decide ((((dn.map V.int ++ [V.int b]) ++ [V.int u]).length : Int) > 1) = true := decide_eq_true (by rw [hL]; omega)
        refine iteF ⟨.ref a, rfl, a, _, rfl, .inl hS, _, _, rfl, rfl, _, rfl, ?_⟩
        rw [h2]
        exact iteT ⟨.int u, rfl, .ref a, rfl, 2, rfl, a, _, -2, .int b, rfl, rfl, hS, atI_last2 _ _ _, .int r, rfl, u, b, r, rfl, hq⟩
theorem ok_TPl {f fL : Addr} {fd fdL : FuncData} {k : Nat} (F : Fun K "turning_points" "turning_points" sTP f fd) (GL : FnOk P w K mg base CX0 (k + 2) fL fdL ["points", "reading"] (spLO K)) (gL : mg "is_left_out" = some (.ref fL)) (kL : PySem.W.keepIn K (.ref fL) = true) (bL : Binds K fdL ["points", "reading"] [])
    (mt : mg "tuple" = none) : FnOk P w K mg base CX0 (k + 3) f fd ["load"] (spTPl K) := by
  refine F.ok scTP (fun vs H Q E h => ?_) (fun cdv A outer s H vs Q E hr h => ?_)
  · obtain ⟨a, ns, rfl, _⟩ := h
    rfl
  · obtain ⟨a, ns, rfl, hS, hlen, hq⟩ := h
    refine ⟨_, pss_cons (ps_set (i := 1) scTP.nd rfl (.inl rfl) (pe_lst pa_nil))
      (pss_cons (ps_for PassesOwn.never rfl (pi_list (pv 0)) (pg_name (i := 2) scTP.nd rfl (.inl rfl))
        (pss_cons (ps_if (pt_val (pe_call GL hr (by rfl) gL kL bL .nil pass0 (pa_cons (pv 1) (pa_cons (pv 2) pa_nil))))
              (pss_one (ps_expr (pe_bm0 PySem.F.plainAttrs_list PySem.F.slot_list_pop PySem.F.type_list_pop mt_pop (pv 1)))) pss_nil)
            (pss_one (ps_expr (pe_bm PySem.F.plainAttrs_list PySem.F.slot_list_append PySem.F.type_list_append mt_append (pv 1) (pa_cons (pv 2) pa_nil))))))
      (pss_one (ps_ret (pe_callTy call_tuple_of (by rfl) mt (by decide +kernel) (pa_cons (pv 1) pa_nil))))), ?_⟩
    refine ⟨Nat.zero_le _, fun D nD => ?_⟩
    have sm : ∀ o, Same H (upd H D o) := fun o => same_new nD
    refine ⟨.ref a, rfl, a, rfl, ⟨_, (sm _).seq hS⟩, for_list (K := K) (a := a) (xs := ns.map V.int)
      (fun i σ H' => ∃ (r2 : Option V), σ = [some (.ref a), some (.ref D), r2] ∧ H' = upd H D (.lst ((tp (ns.take i)).map V.int)) ∧ (tp (ns.take i)).length ≤ i) ?_ ?_ ?_ ?_⟩
    · exact ⟨none, rfl, rfl, Nat.le_refl _⟩
    · rintro i σ H' _ ⟨r2, rfl, rfl, _⟩
      exact (sm _).seq hS
    · rintro i x σ H' hx ⟨r2, rfl, rfl, hpl⟩
      obtain ⟨r, hr2, rfl⟩ := int_at hx
      have hin : i < ns.length := (List.getElem?_eq_some_iff.mp hr2).1
      rw [tp_take hr2]
      generalize tp (ns.take i) = ps at hpl ⊢
      have hpl2 := Nat.le_trans (push_len ps r) (Nat.succ_le_succ hpl)
      refine ⟨.ref D, rfl, .int r, rfl, D, ps, r, rfl, SqL.of upd_same, _, rfl, ?_⟩
      have hp := push_lo ps r
      cases hl : lo ps r with
      | true =>
        rw [hl, if_pos rfl] at hp
        have hne : ps ≠ [] := fun z => by rw [z] at hl; cases hl
        obtain ⟨ps', u, rfl⟩ : ∃ ps' u, ps = ps' ++ [u] := by
          rcases List.eq_nil_or_concat ps with h | ⟨m1, d, h⟩
          · exact absurd h hne
          · exact ⟨m1, d, by rw [h]; simp⟩
        rw [List.dropLast_concat] at hp
        have em : (ps' ++ [u]).map V.int = ps'.map V.int ++ [V.int u] := by simp
        have hl' : (ps' ++ [u]).length = ps'.length + 1 := by simp
        refine iteT ⟨.ref D, rfl, .inl ⟨rfl, _, SqL.of upd_same⟩, D, ps'.map V.int ++ [V.int u], .int u, rfl, rfl, by rw [upd_same, em], by simp, ?_⟩
        refine ⟨.ref D, rfl, .inl ⟨rfl, _, SqL.of upd_same⟩, .int r, rfl, D, ps'.map V.int, _, rfl, rfl, by rw [upd_same, List.dropLast_concat], by rw [List.length_map]; exact small3000 (by omega), _, rfl, ?_, hpl2⟩
        rw [upd_upd, upd_upd, hp, List.map_append]
        rfl
      | false =>
        rw [hl, if_neg (by decide)] at hp
        refine iteF ?_
        refine ⟨.ref D, rfl, .inl ⟨rfl, _, SqL.of upd_same⟩, .int r, rfl, D, _, _, rfl, rfl, upd_same, by rw [List.length_map]; exact small3000 (by omega), _, rfl, ?_, hpl2⟩
        rw [upd_upd, hp, List.map_append]
        rfl
    · rintro σ H' ⟨r2, rfl, rfl, hpl⟩
      have et : ns.take (ns.map V.int).length = ns := by rw [List.length_map]; exact List.take_length
      rw [et]
      exact ⟨.ref D, rfl, D, _, rfl, .inl ⟨SqL.of upd_same, fun l nl => hq _ l ((sm _).trans (same_new nl)) ((sm _).free nl) upd_same⟩⟩
theorem ok_TPt {f fL : Addr} {fd fdL : FuncData} {k : Nat} (F : Fun K "turning_points" "turning_points" sTP f fd) (GL : FnOk P w K mg base CX0 (k + 2) fL fdL ["points", "reading"] (spLO K)) (gL : mg "is_left_out" = some (.ref fL)) (kL : PySem.W.keepIn K (.ref fL) = true) (bL : Binds K fdL ["points", "reading"] [])
    (mt : mg "tuple" = none) : FnOk P w K mg base CX0 (k + 3) f fd ["load"] (spTPt K) := by
  refine F.ok scTP (fun vs H Q E h => ?_) (fun cdv A outer s H vs Q E hr h => ?_)
  · obtain ⟨a, ns, rfl, _⟩ := h
    rfl
  · obtain ⟨a, ns, rfl, hS, hlen, hq⟩ := h
    refine ⟨_, pss_cons (ps_set (i := 1) scTP.nd rfl (.inl rfl) (pe_lst pa_nil))
      (pss_cons (ps_for PassesOwn.never rfl (pi_tup (pv 0)) (pg_name (i := 2) scTP.nd rfl (.inl rfl))
        (pss_cons (ps_if (pt_val (pe_call GL hr (by rfl) gL kL bL .nil pass0 (pa_cons (pv 1) (pa_cons (pv 2) pa_nil))))
              (pss_one (ps_expr (pe_bm0 PySem.F.plainAttrs_list PySem.F.slot_list_pop PySem.F.type_list_pop mt_pop (pv 1)))) pss_nil)
            (pss_one (ps_expr (pe_bm PySem.F.plainAttrs_list PySem.F.slot_list_append PySem.F.type_list_append mt_append (pv 1) (pa_cons (pv 2) pa_nil))))))
      (pss_one (ps_ret (pe_callTy call_tuple_of (by rfl) mt (by decide +kernel) (pa_cons (pv 1) pa_nil))))), ?_⟩
    refine ⟨Nat.zero_le _, fun D nD => ?_⟩
    have sm : ∀ o, Same H (upd H D o) := fun o => same_new nD
    refine ⟨.ref a, rfl, a, rfl, ⟨_, SqT_same (sm _) hS⟩, for_tup (K := K) (a := a) (xs := ns.map V.int)
      (fun i σ H' => ∃ (r2 : Option V), σ = [some (.ref a), some (.ref D), r2] ∧ H' = upd H D (.lst ((tp (ns.take i)).map V.int)) ∧ (tp (ns.take i)).length ≤ i) ?_ ?_ ?_ ?_⟩
    · exact ⟨none, rfl, rfl, Nat.le_refl _⟩
    · rintro i σ H' _ ⟨r2, rfl, rfl, _⟩
      exact SqT_same (sm _) hS
    · rintro i x σ H' hx ⟨r2, rfl, rfl, hpl⟩
      obtain ⟨r, hr2, rfl⟩ := int_at hx
      have hin : i < ns.length := (List.getElem?_eq_some_iff.mp hr2).1
      rw [tp_take hr2]
      generalize tp (ns.take i) = ps at hpl ⊢
      have hpl2 := Nat.le_trans (push_len ps r) (Nat.succ_le_succ hpl)
      refine ⟨.ref D, rfl, .int r, rfl, D, ps, r, rfl, SqL.of upd_same, _, rfl, ?_⟩
      have hp := push_lo ps r
      cases hl : lo ps r with
      | true =>
        rw [hl, if_pos rfl] at hp
        have hne : ps ≠ [] := fun z => by rw [z] at hl; cases hl
        obtain ⟨ps', u, rfl⟩ : ∃ ps' u, ps = ps' ++ [u] := by
          rcases List.eq_nil_or_concat ps with h | ⟨m1, d, h⟩
          · exact absurd h hne
          · exact ⟨m1, d, by rw [h]; simp⟩
        rw [List.dropLast_concat] at hp
        have em : (ps' ++ [u]).map V.int = ps'.map V.int ++ [V.int u] := by simp
        have hl' : (ps' ++ [u]).length = ps'.length + 1 := by simp
        refine iteT ⟨.ref D, rfl, .inl ⟨rfl, _, SqL.of upd_same⟩, D, ps'.map V.int ++ [V.int u], .int u, rfl, rfl, by rw [upd_same, em], by simp, ?_⟩
        refine ⟨.ref D, rfl, .inl ⟨rfl, _, SqL.of upd_same⟩, .int r, rfl, D, ps'.map V.int, _, rfl, rfl, by rw [upd_same, List.dropLast_concat], by rw [List.length_map]; exact small3000 (by omega), _, rfl, ?_, hpl2⟩
        rw [upd_upd, upd_upd, hp, List.map_append]
        rfl
      | false =>
        rw [hl, if_neg (by decide)] at hp
        refine iteF ?_
        refine ⟨.ref D, rfl, .inl ⟨rfl, _, SqL.of upd_same⟩, .int r, rfl, D, _, _, rfl, rfl, upd_same, by rw [List.length_map]; exact small3000 (by omega), _, rfl, ?_, hpl2⟩
        rw [upd_upd, hp, List.map_append]
        rfl
    · rintro σ H' ⟨r2, rfl, rfl, hpl⟩
      have et : ns.take (ns.map V.int).length = ns := by rw [List.length_map]; exact List.take_length
      rw [et]
      exact ⟨.ref D, rfl, D, _, rfl, .inl ⟨SqL.of upd_same, fun l nl => hq _ l ((sm _).trans (same_new nl)) ((sm _).free nl) upd_same⟩⟩
end
end PB

/-! swings; the law's own points -/
namespace PC
open PySem PySem.Spec PyProof.Rows L2 KA PH PM PA PB RM RS
theorem cut_to (xs : List V) (k : Nat) : cutV xs none (some ((k : Nat) : Int)) = xs.take k := by
  unfold cutV
  rw [HT.sIx_none, HT.sIx_nat]
  simp only [Nat.sub_zero, List.drop_zero]
  rcases Nat.le_total k xs.length with h | h
  · rw [Nat.min_eq_left h]
  · rw [Nat.min_eq_right h, List.take_length, List.take_of_length_le h]
theorem cut_from (xs : List V) (k : Nat) : cutV xs (some ((k : Nat) : Int)) none = xs.drop k := by
  unfold cutV
  rw [HT.sIx_nat, HT.sIx_none]
  rcases Nat.le_total k xs.length with h | h
  · rw [Nat.min_eq_left h, List.take_of_length_le (by rw [List.length_drop]; omega)]
  · rw [Nat.min_eq_right h, Nat.sub_self, List.drop_eq_nil_of_le h]
    rfl
/-- a list of i pairs stands at R, what was tracked stands -/
def Prs (H0 : Hp) (R : Addr) (ps : List Int) (i : Nat) (H : Hp) : Prop := Same H0 H ∧ ∃ xs, H R = some (.lst xs) ∧ PairsAt H xs ((sw ps).take i)
theorem Prs.start {H0 : Hp} {R : Addr} (ps : List Int) (n : H0 R = none) : Prs H0 R ps 0 (upd H0 R (.lst [])) := ⟨same_new n, [], upd_same, trivial⟩
theorem Prs.turn {H0 H1 H2 : Hp} {R q : Addr} {ps : List Int} {i : Nat} {x y : Int} (g : Prs H0 R ps i H1) (n : H0 R = none) (s : Same H1 H2) (nq : H2 q = none) (hx : ps[i]? = some x) (hy : ps[i + 1]? = some y) (hl : ps.length ≤ 2500) :
    ∃ acc, (upd H2 q (.tup [.int (rg x y).1, .int (rg x y).2])) R = some (.lst acc) ∧ acc.length < sizeLine ∧ Prs H0 R ps (i + 1) (upd (upd H2 q (.tup [.int (rg x y).1, .int (rg x y).2])) R (.lst (acc ++ [.ref q]))) := by
  obtain ⟨s0, xs, e, pa⟩ := g
  have e2 := s _ _ e
  have nRq : R ≠ q := ne_of_none e2 nq
  have sq : Same H2 (upd H2 q (.tup [.int (rg x y).1, .int (rg x y).2])) := same_new nq
  have hi : i < ps.length := (List.getElem?_eq_some_iff.mp hx).1
  have hxl : xs.length ≤ i := by rw [pa.length, List.length_take]; omega
  refine ⟨xs, sq _ _ e2, small3000 (by omega), same_again n ((s0.trans s).trans sq), xs ++ [.ref q], upd_same, ?_⟩
  rw [sw_take ps i x y hx hy]
  have other : ∀ {ys : List V} {rs : List (Int × Int)}, PairsAt H1 ys rs → PairsAt (upd (upd H2 q (.tup [.int (rg x y).1, .int (rg x y).2])) R (.lst (xs ++ [.ref q]))) ys rs := by
    intro ys
    induction ys with
    | nil => intro rs h; cases rs with
      | nil => trivial
      | cons _ _ => exact h.elim
    | cons z zs ih =>
      intro rs h
      cases rs with
      | nil => exact h.elim
      | cons r rs =>
        obtain ⟨⟨p, h1, h2⟩, h3⟩ := h
        have h4 := sq _ _ (s _ _ h2)
        have npR : p ≠ R := fun z => by rw [z, e] at h2; cases h2
        exact ⟨⟨p, h1, by rw [upd_ne npR]; exact h4⟩, ih h3⟩
  refine PairsAt.append (other pa) ⟨⟨q, rfl, ?_⟩, trivial⟩
  rw [upd_ne nRq.symm, upd_same]
theorem Prs.all {H0 H : Hp} {R : Addr} {ps : List Int} {i : Nat} (g : Prs H0 R ps i H) (h : ps.length - 1 ≤ i) : ∃ xs, H R = some (.lst xs) ∧ PairsAt H xs (sw ps) := by
  obtain ⟨_, xs, e, pa⟩ := g
  rw [List.take_of_length_le (by rw [sw_len]; exact h)] at pa
  exact ⟨xs, e, pa⟩
section
variable {P : Program} {w : World} {K : PySem.W.Frag} {mg : Str → Option Value} {base : Heap}
def spSw (K : PySem.W.Frag) : Sp := fun vs H Q _ => ∃ (a : Addr) (ns : List Int), vs = [.ref a] ∧ Sq K H a (ns.map V.int) ∧ ns.length ≤ 2500 ∧ ∀ H' p xs, Same H H' → H p = none → H' p = some (.lst xs) → PairsAt H' xs (sw (tp ns)) → Q (.ref p) H'
theorem ok_sw {f fP fR : Addr} {fd fdP fdR : FuncData} {k : Nat} (F : Fun K "swings" "swings" sSw f fd) (GP : FnOk P w K mg base CX0 (k + 2) fP fdP ["load"] (spTP K)) (gP : mg "turning_points" = some (.ref fP)) (kP : PySem.W.keepIn K (.ref fP) = true) (bP : Binds K fdP ["load"] [])
    (GR : FnOk P w K mg base CX0 (k + 1) fR fdR ["one", "other"] spRng) (gR : mg "range_of" = some (.ref fR)) (kR : PySem.W.keepIn K (.ref fR) = true) (bR : Binds K fdR ["one", "other"] []) (mz : mg "zip" = none) : FnOk P w K mg base CX0 (k + 3) f fd ["load"] (spSw K) := by
  refine F.ok scSw (fun vs H Q E h => ?_) (fun cdv A outer s H vs Q E hr h => ?_)
  · obtain ⟨a, ns, rfl, _⟩ := h
    rfl
  · obtain ⟨a, ns, rfl, hS, hlen, hq⟩ := h
    have h1 := hr.mono (Nat.le_succ (k + 1))
    refine ⟨_, pss_cons (ps_set (i := 1) scSw.nd rfl (.inl rfl) (pe_call GP hr (by rfl) gP kP bP .nil pass0 (pa_cons (pv 0) pa_nil)))
      (pss_one (ps_ret (pe_lc (own := [("one", 2), ("other", 3)]) (g := gTup K 2 (gCons (gName 2) (gCons (gName 3) gNil))) rfl scSw.nd
        (RZ.pi_zipA (by rfl) mz (pa_cons (pv 1) (pa_cons (pe_slice sl_tupA (pv 1) (po_some pe_int) po_none) pa_nil)))
        (blkOk_by (own := [("one", 2), ("other", 3)]) (N := ["load", "points", "one", "other"]) (sc := defScope sSw) (by decide +kernel))
        (fun _ _ _ _ _ => pg_tup rfl (pgs_cons (pg_name (i := 2) scSw.nd rfl (Or.inl rfl) (Or.inr rfl)) (pgs_cons (pg_name (i := 3) scSw.nd rfl (Or.inl rfl) (Or.inr rfl)) pgs_nil)))
        (fun _ _ _ _ _ => pts_nil) (fun _ _ _ _ _ => pe_call GR h1 (by rfl) gR kR bR .nil pass0 (pa_cons (pv 2) (pa_cons (pv 3) pa_nil)))))), ?_⟩
    refine ⟨.ref a, rfl, ?_⟩
    have hps : (tp ns).length ≤ 2500 := Nat.le_trans (tp_len ns) hlen
    rcases hS with hS | hS
    · refine .inl ⟨a, ns, rfl, hS, hlen, fun H1 t s1 nt et => ?_⟩
      refine ⟨.ref t, rfl, .ref t, rfl, 1, rfl, t, (tp ns).map V.int, rfl, SqT.of et, fun hw => ?_, fun hn c nc => ?_⟩
      · have e0 : (tp ns).map V.int = [] := by
          have z := hw.1
          rw [show (some (1 : Int)) = some ((1 : Nat) : Int) from rfl, HT.sIx_nat] at z
          exact List.length_eq_zero_iff.mp (by omega)
        have hc : SqT K H1 t (((tp ns).map V.int).drop 1) := by
          rw [e0]
          rw [e0] at et
          exact SqT.of et
        have s2 := Same.refl H1
        refine ⟨t, t, (tp ns).map V.int, ((tp ns).map V.int).drop 1, rfl, .inr ⟨SqT.of (s2 _ _ et), hc, fun R nR => lc_it (walk_tups (K := K) (a := t) (b := t) (xs := (tp ns).map V.int) (ys := ((tp ns).map V.int).drop 1) (n := (tp ns).length - 1) (by rw [List.length_drop, List.length_map]; omega))
          (fun i H' => Prs H1 R (tp ns) i H') (Prs.start _ nR) (fun i H' _ g => ⟨SqT.of (g.1 _ _ (s2 _ _ et)), SqT_same g.1 hc⟩) ?_ ?_⟩⟩
        · rintro i x H3 H4 hi g ⟨T, u, v, rfl, nT, rfl, g1, g2⟩
          have g1 : ((tp ns).map V.int)[i]? = some u := g1
          have g2 : (((tp ns).map V.int).drop 1)[i]? = some v := g2
          rw [List.getElem?_drop, Nat.add_comm 1 i] at g2
          obtain ⟨x, hx, rfl⟩ := int_at g1
          obtain ⟨y, hy, rfl⟩ := int_at g2
          refine ⟨T, [.int x, .int y], rfl, SqT.of upd_same, rfl, .int x, [.int y], rfl, .int y, [], rfl, rfl, rfl, ?_⟩
          refine iteT (B := True) ?_
          exact ⟨.int x, rfl, .int y, rfl, x, y, rfl, fun q nq => g.turn nR (same_new nT) nq hx hy hps⟩
        · intro H' g
          obtain ⟨xs, e, pa⟩ := g.all (Nat.le_refl _)
          exact hq H' R xs ((s1.trans s2).trans g.1) ((s1.trans s2).free nR) e pa
      · have hc : SqT K (upd H1 c (.tup (cutV ((tp ns).map V.int) (some 1) none))) c (((tp ns).map V.int).drop 1) := SqT.of (by rw [upd_same, show (some (1 : Int)) = some ((1 : Nat) : Int) from rfl, cut_from])
        have s2 : Same H1 (upd H1 c (.tup (cutV ((tp ns).map V.int) (some 1) none))) := same_new nc
        refine ⟨t, c, (tp ns).map V.int, ((tp ns).map V.int).drop 1, rfl, .inr ⟨SqT.of (s2 _ _ et), hc, fun R nR => lc_it (walk_tups (K := K) (a := t) (b := c) (xs := (tp ns).map V.int) (ys := ((tp ns).map V.int).drop 1) (n := (tp ns).length - 1) (by rw [List.length_drop, List.length_map]; omega))
          (fun i H' => Prs _ R (tp ns) i H') (Prs.start _ nR) (fun i H' _ g => ⟨SqT.of (g.1 _ _ (s2 _ _ et)), SqT_same g.1 hc⟩) ?_ ?_⟩⟩
        · rintro i x H3 H4 hi g ⟨T, u, v, rfl, nT, rfl, g1, g2⟩
          have g1 : ((tp ns).map V.int)[i]? = some u := g1
          have g2 : (((tp ns).map V.int).drop 1)[i]? = some v := g2
          rw [List.getElem?_drop, Nat.add_comm 1 i] at g2
          obtain ⟨x, hx, rfl⟩ := int_at g1
          obtain ⟨y, hy, rfl⟩ := int_at g2
          refine ⟨T, [.int x, .int y], rfl, SqT.of upd_same, rfl, .int x, [.int y], rfl, .int y, [], rfl, rfl, rfl, ?_⟩
          refine iteT (B := True) ?_
          exact ⟨.int x, rfl, .int y, rfl, x, y, rfl, fun q nq => g.turn nR (same_new nT) nq hx hy hps⟩
        · intro H' g
          obtain ⟨xs, e, pa⟩ := g.all (Nat.le_refl _)
          exact hq H' R xs ((s1.trans s2).trans g.1) ((s1.trans s2).free nR) e pa
    · refine .inr ⟨a, ns, rfl, hS, hlen, fun H1 t s1 nt et => ?_⟩
      refine ⟨.ref t, rfl, .ref t, rfl, 1, rfl, t, (tp ns).map V.int, rfl, SqT.of et, fun hw => ?_, fun hn c nc => ?_⟩
      · have e0 : (tp ns).map V.int = [] := by
          have z := hw.1
          rw [show (some (1 : Int)) = some ((1 : Nat) : Int) from rfl, HT.sIx_nat] at z
          exact List.length_eq_zero_iff.mp (by omega)
        have hc : SqT K H1 t (((tp ns).map V.int).drop 1) := by
          rw [e0]
          rw [e0] at et
          exact SqT.of et
        have s2 := Same.refl H1
        refine ⟨t, t, (tp ns).map V.int, ((tp ns).map V.int).drop 1, rfl, .inr ⟨SqT.of (s2 _ _ et), hc, fun R nR => lc_it (walk_tups (K := K) (a := t) (b := t) (xs := (tp ns).map V.int) (ys := ((tp ns).map V.int).drop 1) (n := (tp ns).length - 1) (by rw [List.length_drop, List.length_map]; omega))
          (fun i H' => Prs H1 R (tp ns) i H') (Prs.start _ nR) (fun i H' _ g => ⟨SqT.of (g.1 _ _ (s2 _ _ et)), SqT_same g.1 hc⟩) ?_ ?_⟩⟩
        · rintro i x H3 H4 hi g ⟨T, u, v, rfl, nT, rfl, g1, g2⟩
          have g1 : ((tp ns).map V.int)[i]? = some u := g1
          have g2 : (((tp ns).map V.int).drop 1)[i]? = some v := g2
          rw [List.getElem?_drop, Nat.add_comm 1 i] at g2
          obtain ⟨x, hx, rfl⟩ := int_at g1
          obtain ⟨y, hy, rfl⟩ := int_at g2
          refine ⟨T, [.int x, .int y], rfl, SqT.of upd_same, rfl, .int x, [.int y], rfl, .int y, [], rfl, rfl, rfl, ?_⟩
          refine iteT (B := True) ?_
          exact ⟨.int x, rfl, .int y, rfl, x, y, rfl, fun q nq => g.turn nR (same_new nT) nq hx hy hps⟩
        · intro H' g
          obtain ⟨xs, e, pa⟩ := g.all (Nat.le_refl _)
          exact hq H' R xs ((s1.trans s2).trans g.1) ((s1.trans s2).free nR) e pa
      · have hc : SqT K (upd H1 c (.tup (cutV ((tp ns).map V.int) (some 1) none))) c (((tp ns).map V.int).drop 1) := SqT.of (by rw [upd_same, show (some (1 : Int)) = some ((1 : Nat) : Int) from rfl, cut_from])
        have s2 : Same H1 (upd H1 c (.tup (cutV ((tp ns).map V.int) (some 1) none))) := same_new nc
        refine ⟨t, c, (tp ns).map V.int, ((tp ns).map V.int).drop 1, rfl, .inr ⟨SqT.of (s2 _ _ et), hc, fun R nR => lc_it (walk_tups (K := K) (a := t) (b := c) (xs := (tp ns).map V.int) (ys := ((tp ns).map V.int).drop 1) (n := (tp ns).length - 1) (by rw [List.length_drop, List.length_map]; omega))
          (fun i H' => Prs _ R (tp ns) i H') (Prs.start _ nR) (fun i H' _ g => ⟨SqT.of (g.1 _ _ (s2 _ _ et)), SqT_same g.1 hc⟩) ?_ ?_⟩⟩
        · rintro i x H3 H4 hi g ⟨T, u, v, rfl, nT, rfl, g1, g2⟩
          have g1 : ((tp ns).map V.int)[i]? = some u := g1
          have g2 : (((tp ns).map V.int).drop 1)[i]? = some v := g2
          rw [List.getElem?_drop, Nat.add_comm 1 i] at g2
          obtain ⟨x, hx, rfl⟩ := int_at g1
          obtain ⟨y, hy, rfl⟩ := int_at g2
          refine ⟨T, [.int x, .int y], rfl, SqT.of upd_same, rfl, .int x, [.int y], rfl, .int y, [], rfl, rfl, rfl, ?_⟩
          refine iteT (B := True) ?_
          exact ⟨.int x, rfl, .int y, rfl, x, y, rfl, fun q nq => g.turn nR (same_new nT) nq hx hy hps⟩
        · intro H' g
          obtain ⟨xs, e, pa⟩ := g.all (Nat.le_refl _)
          exact hq H' R xs ((s1.trans s2).trans g.1) ((s1.trans s2).free nR) e pa
end
end PC

/-! places, points taken out -/
namespace QE
open PySem PySem.Spec PyProof.Rows L2 KA PH PM PA PB PC RM RN RS
abbrev sRem : Stmt := topS 16
abbrev sTk : Stmt := topS 17
abbrev sNum : Stmt := topS 5
theorem scNum : FnScope ["value"] ["value"] (defScope sNum) := ⟨rfl, rfl, rfl, by decide +kernel, rfl, by decide +kernel, by decide +kernel⟩
abbrev sIR : Stmt := topS 18
abbrev sMT : Stmt := topS 19
abbrev sPB : Stmt := topS 20
abbrev sCo : Stmt := topS 21
abbrev sClass : Stmt := topS 22
abbrev sLaw : Stmt := topS 33
theorem scRem : FnScope ["points", "place"] ["points"] (defScope sRem) := ⟨rfl, rfl, rfl, by decide +kernel, rfl, by decide +kernel, by decide +kernel⟩
theorem scTk : FnScope ["points", "place", "cycle"] ["points", "place"] (defScope sTk) := ⟨rfl, rfl, rfl, by decide +kernel, rfl, by decide +kernel, by decide +kernel⟩
theorem scIR : FnScope ["points", "value"] ["points", "value"] (defScope sIR) := ⟨rfl, rfl, rfl, by decide +kernel, rfl, by decide +kernel, by decide +kernel⟩
theorem scMT : FnScope ["points", "place", "size"] ["points", "place"] (defScope sMT) := ⟨rfl, rfl, rfl, by decide +kernel, rfl, by decide +kernel, by decide +kernel⟩
theorem Sq.ix {K : PySem.W.Frag} {H : Hp} {a : Addr} {xs : List V} {z : Int} {v : V} {Q : VK} (h : Sq K H a xs) (e : atI xs z = some v) (q : Q v H) : rIx K (.ref a) (.int z) H Q := by
  rcases h with h | h
  · exact .inl ⟨a, xs, z, v, rfl, rfl, h, e, q⟩
  · exact .inr (.inl ⟨a, xs, z, v, rfl, rfl, h, e, q⟩)
section
variable {P : Program} {w : World} {K : PySem.W.Frag} {mg : Str → Option Value} {base : Heap}
def spMT (K : PySem.W.Frag) : Sp := fun vs H Q _ => ∃ (a : Addr) (ps : List Int) (i : Nat) (z x y t u : Int), vs = [.ref a, .int z] ∧ z = (i : Int) + 1 ∧ Sq K H a (ps.map V.int) ∧ ZZ ps ∧ ps[i]? = some x ∧ ps[i + 1]? = some y ∧ ps[i + 2]? = some t ∧ ps[i + 3]? = some u ∧
  ∀ H', Same H H' → Q (.bl (takenAt ps i)) H'
theorem abs_i (i : Int) : (if i < 0 then -i else i) = (i.natAbs : Int) := by split <;> omega
theorem ok_MT {f : Addr} {fd : FuncData} {k : Nat} (F : Fun K "_may_be_taken" "_may_be_taken" sMT f fd) (ma : mg "abs" = none) : FnOk P w K mg base CX0 (k + 1) f fd ["points", "place"] (spMT K) := by
  refine F.ok scMT (fun vs H Q E h => ?_) (fun cdv A outer s H vs Q E hr h => ?_)
  · obtain ⟨a, ps, i, z, x, y, t, u, rfl, _⟩ := h
    rfl
  · obtain ⟨a, ps, i, z, x, y, t, u, rfl, rfl, hS, zz, e0, e1, e2, e3, hq⟩ := h
    refine ⟨_, pss_cons (ps_set (i := 2) scMT.nd rfl (.inl rfl) (pe_callB call_abs (by rfl) ma (by decide +kernel) (pa_cons (pe_op op_sub (pe_ix ix_seq (pv 0) (pe_op op_add (pv 1) pe_int) (fun _ _ => rfl)) (pe_ix ix_seq (pv 0) (pv 1) (fun _ _ => rfl))) pa_nil)))
      (pss_one (ps_ret (pe_and (pe_cmpR op_ge (pe_callB call_abs (by rfl) ma (by decide +kernel) (pa_cons (pe_op op_sub (pe_ix ix_seq (pv 0) (pv 1) (fun _ _ => rfl)) (pe_ix ix_seq (pv 0) (pe_op op_sub (pv 1) pe_int) (fun _ _ => rfl))) pa_nil)) (pv 2) (nomark _))
        (pe_one (pe_cmpR op_ge (pe_callB call_abs (by rfl) ma (by decide +kernel) (pa_cons (pe_op op_sub (pe_ix ix_seq (pv 0) (pe_op op_add (pv 1) pe_int) (fun _ _ => rfl)) (pe_ix ix_seq (pv 0) (pe_op op_add (pv 1) pe_int) (fun _ _ => rfl))) pa_nil)) (pv 2) (nomark _)))))), ?_⟩
    have a0 : atI (ps.map V.int) ((i : Int) + 1 - 1) = some (.int x) := at_of (j := i) (by omega) (at_int e0)
    have a1 : atI (ps.map V.int) ((i : Int) + 1) = some (.int y) := at_of (j := i + 1) (by omega) (at_int e1)
    have a2 : atI (ps.map V.int) ((i : Int) + 1 + 1) = some (.int t) := at_of (j := i + 2) (by omega) (at_int e2)
    have a3 : atI (ps.map V.int) ((i : Int) + 1 + 2) = some (.int u) := at_of (j := i + 3) (by omega) (at_int e3)
    have hq2 := hq H (Same.refl H)
    rw [taken_get e0 e1 e2 e3] at hq2
    have eT : decide (Taken x y t u) = (decide (((y - x).natAbs : Int) ≥ ((t - y).natAbs : Int)) && decide (((u - t).natAbs : Int) ≥ ((t - y).natAbs : Int))) := by
      rw [← Bool.decide_and, decide_eq_decide]
      exact taken_abs (zz_at zz e0 e1 e2 e3)
    rw [eT] at hq2
    refine ⟨.ref a, rfl, .int ((i : Int) + 1), rfl, _, 1, rfl, rfl, Sq.ix hS a2 ⟨.ref a, rfl, .int ((i : Int) + 1), rfl, Sq.ix hS a1 ⟨t, y, rfl, rfl, _, rfl, ?_⟩⟩⟩
    refine ⟨.ref a, rfl, .int ((i : Int) + 1), rfl, Sq.ix hS a1 ⟨.ref a, rfl, .int ((i : Int) + 1), rfl, _, 1, rfl, rfl, Sq.ix hS a0 ⟨y, x, rfl, rfl, _, rfl, ?_⟩⟩⟩
    refine ⟨_, rfl, _, _, rfl, rfl, _, rfl, ?_⟩
    rw [abs_i, abs_i]
    cases h1 : decide (((y - x).natAbs : Int) ≥ ((t - y).natAbs : Int)) with
    | true =>
      rw [h1, Bool.true_and] at hq2
      refine iteT ⟨.ref a, rfl, .int ((i : Int) + 1), rfl, _, 2, rfl, rfl, Sq.ix hS a3 ⟨.ref a, rfl, .int ((i : Int) + 1), rfl, _, 1, rfl, rfl, Sq.ix hS a2 ⟨u, t, rfl, rfl, _, rfl, ?_⟩⟩⟩
      refine ⟨_, rfl, _, _, rfl, rfl, ?_⟩
      rw [abs_i]
      exact hq2
    | false =>
      rw [h1, Bool.false_and] at hq2
      exact iteF hq2
def spRem (K : PySem.W.Frag) : Sp := fun vs H Q _ => ∃ (a : Addr) (ps : List Int), vs = [.ref a] ∧ Sq K H a (ps.map V.int) ∧ ZZ ps ∧ ps.length ≤ 2500 ∧ ∀ H' p, Same H H' → H p = none → H' p = some (.tup ((plc ps).map V.int)) → Q (.ref p) H'
theorem ok_rem {f fM : Addr} {fd fdM : FuncData} {k : Nat} (F : Fun K "removable" "removable" sRem f fd)
    (GM : FnOk P w K mg base CX0 (k + 2) fM fdM ["points", "place"] (spMT K)) (gM : mg "_may_be_taken" = some (.ref fM)) (kM : PySem.W.keepIn K (.ref fM) = true) (bM : Binds K fdM ["points", "place"] [])
    (ml : mg "len" = none) (mr : mg "range" = none) (mt : mg "tuple" = none) : FnOk P w K mg base CX0 (k + 3) f fd ["points"] (spRem K) := by
  refine F.ok scRem (fun vs H Q E h => ?_) (fun cdv A outer s H vs Q E hr h => ?_)
  · obtain ⟨a, ps, rfl, _⟩ := h
    rfl
  · obtain ⟨a, ps, rfl, hS, zz, hlen, hq⟩ := h
    refine ⟨_, pss_one (ps_ret (pe_callTy call_tuple_of (by rfl) mt (by decide +kernel) (pa_cons (pe_lc (own := [("place", 1)]) (g := gName 1) (tt := tB (tCall (spMT K) [] E0 (tCons (tVar 0) (tCons (tVar 1) tNil)))) rfl scRem.nd
        (pi_range2 (by rfl) mr (pa_cons pe_int (pa_cons (pe_op op_sub (pe_callB call_len_seq (by rfl) ml PySem.boot_len (pa_cons (pv 0) pa_nil)) pe_int) pa_nil)))
        (blkOk_by (own := [("place", 1)]) (N := ["points", "place"]) (sc := defScope sRem) (by decide +kernel)) (fun _ _ _ _ _ => pg_name (i := 1) scRem.nd rfl (Or.inl rfl) (Or.inr rfl))
        (fun _ _ _ _ _ => pts_one (pt_val (pe_call GM hr (by rfl) gM kM bM .nil pass0 (pa_cons (pv 0) (pa_cons (pv 1) pa_nil))))) (fun _ _ _ _ _ => pv 1)) pa_nil))), ?_⟩
    have hm : (ps.map V.int).length = ps.length := List.length_map _
    refine ⟨.ref a, rfl, a, _, rfl, hS, _, 2, rfl, rfl, 1, _, rfl, ⟨by decide, by decide, by rw [hm]; omega, by rw [hm]; omega⟩, fun D nD => ?_⟩
    refine lc_range (lo := 1) (n := ((((ps.map V.int).length : Int) - 2) - 1).toNat) (fun i H' => Same H H' ∧ H' D = some (.lst ((((List.range i).filter (takenAt ps)).map fun (i : Nat) => (i : Int) + 1).map V.int))) ⟨same_new nD, upd_same⟩ ?_ ?_
    · rintro i H' hi ⟨sm, eD⟩
      rw [hm] at hi
      have hl : i + 3 < ps.length := by omega
      have ez : (1 : Int) + (i : Int) = (i : Int) + 1 := by omega
      refine ⟨rfl, .ref a, rfl, .int (1 + (i : Int)), rfl, a, ps, i, _, ps[i], ps[i + 1], ps[i + 2], ps[i + 3], rfl, ez, hS.same sm, zz, List.getElem?_eq_getElem (by omega), List.getElem?_eq_getElem (by omega), List.getElem?_eq_getElem (by omega), List.getElem?_eq_getElem (by omega), fun H2 s2 => ⟨_, rfl, ?_⟩⟩
      cases ht : takenAt ps i with
      | true =>
        refine iteT ⟨.int (1 + (i : Int)), rfl, _, s2 _ _ eD, ?_, same_again nD (sm.trans s2), ?_⟩
        · rw [List.length_map, List.length_map]
          have := List.length_filter_le (takenAt ps) (List.range i)
          rw [List.length_range] at this
          exact small3000 (by omega)
        · rw [upd_same, List.range_succ, List.filter_append, List.filter_cons, ht, ez]
          simp [List.map_append]
      | false =>
        refine iteF ⟨sm.trans s2, ?_⟩
        rw [List.range_succ, List.filter_append, List.filter_cons, ht]
        simp
        rw [s2 _ _ eD]
        simp
    · rintro H' ⟨sm, eD⟩
      have en : ((((ps.map V.int).length : Int) - 2) - 1).toNat = ps.length - 3 := by rw [hm]; omega
      rw [en] at eD
      exact ⟨D, _, rfl, .inl ⟨SqL.of eD, fun l nl => hq _ l (sm.trans (same_new nl)) (sm.free nl) upd_same⟩⟩
end
end QE

/-! take; the stack -/
namespace QF
open PySem PySem.Spec PyProof.Rows L2 KA PH PM PA PB PC RM RN RS QE
theorem scPB : FnScope ["rest", "reading", "cycles"] ["rest", "reading"] (defScope sPB) := ⟨rfl, rfl, rfl, by decide +kernel, rfl, by decide +kernel, by decide +kernel⟩
theorem scCo : FnScope ["load", "cycles", "rest", "reading"] ["load"] (defScope sCo) := ⟨rfl, rfl, rfl, by decide +kernel, rfl, by decide +kernel, by decide +kernel⟩
theorem taken_all {ps : List Int} {i : Nat} (h : takenAt ps i = true) : ∃ x y t u, ps[i]? = some x ∧ ps[i + 1]? = some y ∧ ps[i + 2]? = some t ∧ ps[i + 3]? = some u := by
  have := taken_lt h
  exact ⟨_, _, _, _, List.getElem?_eq_getElem (by omega), List.getElem?_eq_getElem (by omega), List.getElem?_eq_getElem (by omega), List.getElem?_eq_getElem (by omega)⟩
section
variable {P : Program} {w : World} {K : PySem.W.Frag} {mg : Str → Option Value} {base : Heap}
def spIR (K : PySem.W.Frag) : Sp := fun vs H Q _ => ∃ (a : Addr) (ps : List Int) (i : Nat) (z : Int), vs = [.ref a, .int z] ∧ z = (i : Int) + 1 ∧ Sq K H a (ps.map V.int) ∧ ZZ ps ∧ takenAt ps i = true ∧ ∀ H', Same H H' → Q (.bl true) H'
def spNum : Sp := fun vs H Q _ => ∃ z : Int, vs = [.int z] ∧ Q (.bl true) H
theorem ok_Num {f : Addr} {fd : FuncData} {k : Nat} (F : Fun K "is_number" "is_number" sNum f fd) (ms : mg "isinstance" = none) (mi : mg "int" = none) (mb : mg "bool" = none) : FnOk P w K mg base CX0 (k + 1) f fd ["value"] spNum := by
  refine F.ok scNum (fun vs H Q E h => ?_) (fun cdv A outer s H vs Q E hr h => ?_)
  · obtain ⟨z, rfl, _⟩ := h
    rfl
  · obtain ⟨z, rfl, hq⟩ := h
    refine ⟨_, pss_one (ps_ret (pe_and (pe_callB call_isi (by rfl) ms (by decide +kernel) (pa_cons (pv 0) (pa_cons (pe_bltn (v := .ty "int") (by rfl) mi (by decide +kernel) rfl) pa_nil)))
        (pe_one (pe_not (pe_callB call_isi (by rfl) ms (by decide +kernel) (pa_cons (pv 0) (pa_cons (pe_bltn (v := .ty "bool") (by rfl) mb (by decide +kernel) rfl) pa_nil))))))), ?_⟩
    refine ⟨.int z, rfl, _, .ty "int", .type "int", .type "int", true, rfl, .ty "int", .base (.int _), kit_ty (by decide +kernel), true, rfl, iteT ?_⟩
    exact ⟨.int z, rfl, _, .ty "bool", .type "int", .type "bool", false, rfl, .ty "bool", .base (.int _), kit_ty (by decide +kernel), false, rfl, hq⟩
theorem ok_IR {f fM fN : Addr} {fd fdM dN : FuncData} {k : Nat} (F : Fun K "_is_removable" "_is_removable" sIR f fd)
    (GN : FnOk P w K mg base CX0 (k + 1) fN dN ["value"] spNum) (gN : mg "is_number" = some (.ref fN)) (kN : PySem.W.keepIn K (.ref fN) = true) (bN : Binds K dN ["value"] [])
    (GM : FnOk P w K mg base CX0 (k + 2) fM fdM ["points", "place"] (spMT K)) (gM : mg "_may_be_taken" = some (.ref fM)) (kM : PySem.W.keepIn K (.ref fM) = true) (bM : Binds K fdM ["points", "place"] [])
    (ml : mg "len" = none) : FnOk P w K mg base CX0 (k + 3) f fd ["points", "value"] (spIR K) := by
  refine F.ok scIR (fun vs H Q E h => ?_) (fun cdv A outer s H vs Q E hr h => ?_)
  · obtain ⟨a, ps, i, z, rfl, _⟩ := h
    rfl
  · obtain ⟨a, ps, i, z, rfl, rfl, hS, zz, ht, hq⟩ := h
    refine ⟨_, pss_one (ps_ret (pe_and (pe_call GN (hr.mono (by omega)) (by rfl) gN kN bN .nil pass0 (pa_cons (pv 1) pa_nil)) (pe_and (pe_chain op_le op_lt pe_int (pv 1) (pe_op op_sub (pe_callB call_len_seq (by rfl) ml PySem.boot_len (pa_cons (pv 0) pa_nil)) pe_int)) (pe_one (pe_call GM hr (by rfl) gM kM bM .nil pass0 (pa_cons (pv 0) (pa_cons (pv 1) pa_nil))))))), ?_⟩
    obtain ⟨x, y, t, u, e0, e1, e2, e3⟩ := taken_all ht
    have hl := taken_lt ht
    refine ⟨.int ((i : Int) + 1), rfl, _, rfl, true, rfl, iteT ?_⟩
    have hm : (ps.map V.int).length = ps.length := List.length_map _
    have d1 : decide ((1 : Int) ≤ (i : Int) + 1) = true := decide_eq_true (by omega)
    have d2 : decide ((i : Int) + 1 < ((ps.map V.int).length : Int) - 2) = true := decide_eq_true (by rw [hm]; omega)
    refine ⟨.int ((i : Int) + 1), rfl, 1, _, rfl, rfl, true, congrArg V.bl d1, iteT ⟨.ref a, rfl, a, _, rfl, hS, _, 2, rfl, rfl, _, _, rfl, rfl, true, congrArg V.bl d2, iteT ?_⟩⟩
    refine ⟨.ref a, rfl, .int ((i : Int) + 1), rfl, a, ps, i, _, x, y, t, u, rfl, rfl, hS, zz, e0, e1, e2, e3, fun H' s' => ?_⟩
    rw [ht]
    exact hq H' s'
def spTk (K : PySem.W.Frag) : Sp := fun vs H Q _ => ∃ (a : Addr) (pre post : List Int) (b c d e z : Int), vs = [.ref a, .int z] ∧ z = (pre.length : Int) + 1 ∧ SqT K H a ((pre ++ b :: c :: d :: e :: post).map V.int) ∧ ZZ (pre ++ b :: c :: d :: e :: post) ∧ Taken b c d e ∧ (pre ++ b :: c :: d :: e :: post).length ≤ 2500 ∧
  ∀ H' p q1 q2, Same H H' → H p = none → H q1 = none → H q2 = none → H' p = some (.tup [.ref q1, .ref q2]) → H' q1 = some (.tup [.int (rg c d).1, .int (rg c d).2]) → H' q2 = some (.tup ((pre ++ b :: e :: post).map V.int)) → Q (.ref p) H'
theorem ok_tk {f fI fR : Addr} {fd fdI fdR : FuncData} {k : Nat} (F : Fun K "take" "take" sTk f fd)
    (GI : FnOk P w K mg base CX0 (k + 3) fI fdI ["points", "value"] (spIR K)) (gI : mg "_is_removable" = some (.ref fI)) (kI : PySem.W.keepIn K (.ref fI) = true) (bI : Binds K fdI ["points", "value"] [])
    (GR : FnOk P w K mg base CX0 (k + 3) fR fdR ["one", "other"] spRng) (gR : mg "range_of" = some (.ref fR)) (kR : PySem.W.keepIn K (.ref fR) = true) (bR : Binds K fdR ["one", "other"] [])
    (mt : mg "tuple" = none) : FnOk P w K mg base CX0 (k + 4) f fd ["points", "place"] (spTk K) := by
  refine F.ok scTk (fun vs H Q E h => ?_) (fun cdv A outer s H vs Q E hr h => ?_)
  · obtain ⟨a, pre, post, b, c, d, e, z, rfl, _⟩ := h
    rfl
  · obtain ⟨a, pre, post, b, c, d, e, z, rfl, rfl, hS, zz, tk, hlen, hq⟩ := h
    refine ⟨_, pss_cons (ps_if (pt_not (pt_val (pe_call GI hr (by rfl) gI kI bI .nil pass0 (pa_cons (pv 0) (pa_cons (pv 1) pa_nil))))) (pss_one ps_never) pss_nil)
      (pss_cons (ps_set (i := 2) scTk.nd rfl (.inl rfl) (pe_call GR hr (by rfl) gR kR bR .nil pass0 (pa_cons (pe_ix ix_tup (pv 0) (pv 1) (fun _ _ => rfl)) (pa_cons (pe_ix ix_tup (pv 0) (pe_op op_add (pv 1) pe_int) (fun _ _ => rfl)) pa_nil))))
      (pss_one (ps_ret (pe_tup (pa_cons (pv 2) (pa_cons (pe_op op_catT (pe_callTy call_tupleT (by rfl) mt (by decide +kernel) (pa_cons (pe_slice sl_tup (pv 0) po_none (po_some (pv 1))) pa_nil)) (pe_callTy call_tupleT (by rfl) mt (by decide +kernel) (pa_cons (pe_slice sl_tup (pv 0) (po_some (pe_op op_add (pv 1) pe_int)) po_none) pa_nil))) pa_nil)))))), ?_⟩
    generalize hps : pre ++ b :: c :: d :: e :: post = ps at hS zz hlen hq ⊢
    have ht : takenAt ps pre.length = true := by
      rw [← hps]
      unfold takenAt
      rw [List.drop_left]
      exact decide_eq_true tk
    have hl := taken_lt ht
    have g1 : ps[pre.length + 1]? = some c := by rw [← hps, List.getElem?_append_right (by omega)]; simp
    have g2 : ps[pre.length + 2]? = some d := by rw [← hps, List.getElem?_append_right (by omega)]; simp
    have hm : (ps.map V.int).length = ps.length := List.length_map _
    have t1 : (ps.map V.int).take (pre.length + 1) = (pre ++ [b]).map V.int := by
      rw [← List.map_take, ← hps]
      congr 1
      rw [show pre ++ b :: c :: d :: e :: post = (pre ++ [b]) ++ (c :: d :: e :: post) by simp, show pre.length + 1 = (pre ++ [b]).length by simp, List.take_left]
    have t2 : (ps.map V.int).drop (pre.length + 3) = (e :: post).map V.int := by
      rw [← List.map_drop, ← hps]
      congr 1
      rw [show pre ++ b :: c :: d :: e :: post = (pre ++ [b, c, d]) ++ (e :: post) by simp, show pre.length + 3 = (pre ++ [b, c, d]).length by simp, List.drop_left]
    refine ⟨.ref a, rfl, .int ((pre.length : Int) + 1), rfl, a, ps, pre.length, _, rfl, rfl, .inr hS, zz, ht, fun H1 s1 => ⟨true, rfl, iteF ?_⟩⟩
    have hS1 := SqT_same s1 hS
    refine ⟨.ref a, rfl, .int ((pre.length : Int) + 1), rfl, a, _, _, .int c, rfl, rfl, hS1, at_of (j := pre.length + 1) (by omega) (at_int g1), .ref a, rfl, .int ((pre.length : Int) + 1), rfl, _, 1, rfl, rfl, a, _, _, .int d, rfl, rfl, hS1, at_of (j := pre.length + 2) (by omega) (at_int g2), c, d, rfl, fun q1 n1 => ?_⟩
    have s2 := same_new (o := .tup [.int (rg c d).1, .int (rg c d).2]) n1
    have hq1 := upd_same (H := H1) (a := q1) (o := .tup [.int (rg c d).1, .int (rg c d).2])
    generalize upd H1 q1 (.tup [.int (rg c d).1, .int (rg c d).2]) = H2 at s2 hq1 ⊢
    have hS2 := SqT_same s2 hS1
    refine ⟨.ref q1, rfl, .ref a, rfl, .int ((pre.length : Int) + 1), rfl, _, rfl, a, _, rfl, hS2, ?_, fun c1 nc1 => ?_⟩
    · rintro ⟨_, z⟩
      rw [show (some ((pre.length : Int) + 1)) = some (((pre.length + 1 : Nat)) : Int) from rfl, HT.sIx_nat, hm] at z
      omega
    have e1 : cutV (ps.map V.int) none (some ((pre.length : Int) + 1)) = (pre ++ [b]).map V.int := by rw [show (some ((pre.length : Int) + 1)) = some (((pre.length + 1 : Nat)) : Int) from rfl, cut_to, t1]
    have s3 := same_new (o := .tup (cutV (ps.map V.int) none (some ((pre.length : Int) + 1)))) nc1
    have hc1 : (upd H2 c1 (.tup (cutV (ps.map V.int) none (some ((pre.length : Int) + 1))))) c1 = some (.tup ((pre ++ [b]).map V.int)) := by rw [upd_same, e1]
    generalize upd H2 c1 (.tup (cutV (ps.map V.int) none (some ((pre.length : Int) + 1)))) = H3 at s3 hc1 ⊢
    refine ⟨c1, _, rfl, SqT.of hc1, .ref a, rfl, .int ((pre.length : Int) + 1), rfl, _, 2, rfl, rfl, _, rfl, a, _, rfl, SqT_same s3 hS2, ?_, fun c2 nc2 => ?_⟩
    · rintro ⟨z, _⟩
      rw [show (some ((pre.length : Int) + 1 + 2)) = some (((pre.length + 3 : Nat)) : Int) from rfl, HT.sIx_nat, hm] at z
      omega
    have e2 : cutV (ps.map V.int) (some ((pre.length : Int) + 1 + 2)) none = (e :: post).map V.int := by rw [show (some ((pre.length : Int) + 1 + 2)) = some (((pre.length + 3 : Nat)) : Int) from rfl, cut_from, t2]
    have s4 := same_new (o := .tup (cutV (ps.map V.int) (some ((pre.length : Int) + 1 + 2)) none)) nc2
    have hc2 : (upd H3 c2 (.tup (cutV (ps.map V.int) (some ((pre.length : Int) + 1 + 2)) none))) c2 = some (.tup ((e :: post).map V.int)) := by rw [upd_same, e2]
    generalize upd H3 c2 (.tup (cutV (ps.map V.int) (some ((pre.length : Int) + 1 + 2)) none)) = H4 at s4 hc2 ⊢
    refine ⟨c2, _, rfl, SqT.of hc2, c1, c2, (pre ++ [b]).map V.int, (e :: post).map V.int, rfl, rfl, SqT.of (s4 _ _ hc1), SqT.of hc2, by simp, ?_, fun z => by simp at z, fun _ q2 nq2 => ?_⟩
    · rw [← List.length_append, ← List.map_append, List.length_map]
      refine Nat.le_of_lt (small3000 ?_)
      have hle : (pre ++ b :: c :: d :: e :: post).length ≤ 2500 := by rw [hps]; exact hlen
      simp only [List.length_append, List.length_cons, List.length_nil] at hle ⊢
      omega
    have s5 := same_new (o := .tup ((pre ++ [b]).map V.int ++ (e :: post).map V.int)) nq2
    have hq2 : (upd H4 q2 (.tup ((pre ++ [b]).map V.int ++ (e :: post).map V.int))) q2 = some (.tup ((pre ++ b :: e :: post).map V.int)) := by
      rw [upd_same, ← List.map_append, List.append_assoc]
      rfl
    refine ⟨by show 2 ≤ sizeLine; decide, fun p np => ?_⟩
    have s6 := same_new (o := .tup [.ref q1, .ref q2]) np
    have s03 : Same H H3 := s1.trans (s2.trans s3)
    have s04 : Same H H4 := s03.trans s4
    exact hq _ p q1 q2 (s04.trans (s5.trans s6)) ((s04.trans s5).free np) (s1.free n1) (s04.free nq2) upd_same (s6 _ _ (s5 _ _ (s4 _ _ (s3 _ _ hq1)))) (s6 _ _ hq2)
end
end QF

/-! the stack -/
namespace QG
open PySem PySem.Spec PyProof.Rows L2 KA PH PM PA PB PC RM RN RS KD QE QF
theorem atI_last3 (xs : List V) (u v w : V) : atI (xs ++ [u, v, w]) (-3) = some u := by
  have hl : (xs ++ [u, v, w]).length = xs.length + 3 := by simp
  have h : ixN (xs ++ [u, v, w]).length (-3) = some xs.length := by
    unfold ixN
    rw [hl, if_neg (by decide), if_pos (by omega)]
    congr 1
    omega
  unfold atI
  rw [h]
  show (xs ++ [u, v, w])[xs.length]? = some u
  simp
theorem atI_last2' (xs : List V) (u v w : V) : atI (xs ++ [u, v, w]) (-2) = some v := by
  have := atI_last2 (xs ++ [u]) v w
  simpa using this
theorem last3 : ∀ {m : List Int}, 3 ≤ m.length → ∃ pre b c d, m = pre ++ [b, c, d] := by
  intro m h
  rcases List.eq_nil_or_concat m with rfl | ⟨m1, d, rfl⟩
  · simp at h
  · rcases List.eq_nil_or_concat m1 with rfl | ⟨m2, c, rfl⟩
    · simp at h
    · rcases List.eq_nil_or_concat m2 with rfl | ⟨m3, b, rfl⟩
      · simp at h
      · exact ⟨m3, b, c, d, by simp⟩
theorem pairs_upd {H : Hp} {R : Addr} {l l' : List V} (e : H R = some (.lst l)) : ∀ {xs : List V} {rs : List (Int × Int)}, PairsAt H xs rs → PairsAt (upd H R (.lst l')) xs rs
  | [], [], _ => trivial
  | x :: xs, r :: rs, ⟨⟨p, h1, h2⟩, h3⟩ => ⟨⟨p, h1, by rw [upd_ne (fun z => by rw [z, e] at h2; cases h2)]; exact h2⟩, pairs_upd e h3⟩
  | [], _ :: _, h => h.elim
  | _ :: _, [], h => h.elim
section
variable {P : Program} {w : World} {K : PySem.W.Frag} {mg : Str → Option Value} {base : Heap}
def spTPq (K : PySem.W.Frag) : Sp := fun vs H Q _ => ∃ (a : Addr) (ns : List Int), vs = [.ref a] ∧ Sq K H a (ns.map V.int) ∧ ns.length ≤ 2500 ∧ ∀ H' p, Same H H' → H p = none → H' p = some (.tup ((tp ns).map V.int)) → Q (.ref p) H'
theorem tpq_of {k : Nat} {f : Addr} {fd : FuncData} (G : FnOk P w K mg base CX0 k f fd ["load"] (spTP K)) : FnOk P w K mg base CX0 k f fd ["load"] (spTPq K) :=
  G.imp fun vs H Q E ⟨a, ns, e, hs, hl, q⟩ => hs.elim (fun z => .inl ⟨a, ns, e, z, hl, q⟩) (fun z => .inr ⟨a, ns, e, z, hl, q⟩)
theorem ch_pairs {f : Addr} {H H' : Hp} {l : List V} (c : Ch f H H') (e : H f = some (.lst l)) : ∀ {xs : List V} {rs : List (Int × Int)}, PairsAt H xs rs → PairsAt H' xs rs
  | [], [], _ => trivial
  | x :: xs, r :: rs, ⟨⟨p, h1, h2⟩, h3⟩ => ⟨⟨p, h1, c _ _ (fun z => by rw [z, e] at h2; cases h2) h2⟩, ch_pairs c e h3⟩
  | [], _ :: _, h => h.elim
  | _ :: _, [], h => h.elim
/-- what put_behind holds -/
structure Bhd (H : Hp) (C R : Addr) (xs : List V) (cs : List (Int × Int)) (rs : List Int) (Hx : Hp) : Prop where
  ch : Ch R H Hx
  c : Hx C = some (.lst xs)
  pa : PairsAt Hx xs cs
  r : Hx R = some (.lst (rs.map V.int))
theorem Bhd.same {H : Hp} {C R : Addr} {xs : List V} {cs : List (Int × Int)} {rs : List Int} {H1 H2 : Hp} (g : Bhd H C R xs cs rs H1) (s : Same H1 H2) : Bhd H C R xs cs rs H2 :=
  ⟨g.ch.trans (.of_same s), s _ _ g.c, g.pa.same s, s _ _ g.r⟩
theorem Bhd.rest {H : Hp} {C R : Addr} {xs : List V} {cs : List (Int × Int)} {rs : List Int} {H1 : Hp} (g : Bhd H C R xs cs rs H1) (nCR : C ≠ R) (rs' : List Int) : Bhd H C R xs cs rs' (upd H1 R (.lst (rs'.map V.int))) :=
  ⟨g.ch.trans .put, by rw [upd_ne nCR]; exact g.c, pairs_upd g.r g.pa, upd_same⟩
theorem Bhd.cyc {H : Hp} {C R q : Addr} {xs : List V} {cs : List (Int × Int)} {rs : List Int} {H1 : Hp} {c : Int × Int} (g : Bhd H C R xs cs rs H1) (nC : H C = none) (nCR : C ≠ R) (hq : H1 q = some (.tup [.int c.1, .int c.2])) :
    Bhd H C R (xs ++ [.ref q]) (cs ++ [c]) rs (upd H1 C (.lst (xs ++ [.ref q]))) :=
  ⟨Ch.again nC g.ch, upd_same, PairsAt.append (pairs_upd g.c g.pa) ⟨⟨q, rfl, by rw [upd_ne (fun z => by rw [z, g.c] at hq; cases hq)]; exact hq⟩, trivial⟩, by rw [upd_ne nCR.symm]; exact g.r⟩
def spPB : Sp := fun vs H Q _ => ∃ (R : Addr) (rs : List Int) (r : Int), vs = [.ref R, .int r] ∧ H R = some (.lst (rs.map V.int)) ∧ ZZ rs ∧ NF rs ∧ rs.length ≤ 2500 ∧
  ∀ H' p xs cs rs', Ch R H H' → H p = none → H' p = some (.lst xs) → PairsAt H' xs cs → H' R = some (.lst (rs'.map V.int)) → Run (push rs r) cs rs' → NF rs' → Q (.ref p) H'
theorem ok_PB {f fL fM fR : Addr} {fd fdL fdM fdR : FuncData} {k : Nat} (F : Fun K "put_behind" "put_behind" sPB f fd)
    (GL : FnOk P w K mg base CX0 (k + 2) fL fdL ["points", "reading"] (spLO K)) (gL : mg "is_left_out" = some (.ref fL)) (kL : PySem.W.keepIn K (.ref fL) = true) (bL : Binds K fdL ["points", "reading"] [])
    (GM : FnOk P w K mg base CX0 (k + 2) fM fdM ["points", "place"] (spMT K)) (gM : mg "_may_be_taken" = some (.ref fM)) (kM : PySem.W.keepIn K (.ref fM) = true) (bM : Binds K fdM ["points", "place"] [])
    (GR : FnOk P w K mg base CX0 (k + 2) fR fdR ["one", "other"] spRng) (gR : mg "range_of" = some (.ref fR)) (kR : PySem.W.keepIn K (.ref fR) = true) (bR : Binds K fdR ["one", "other"] [])
    (ml : mg "len" = none) : FnOk P w K mg base CX0 (k + 3) f fd ["rest", "reading"] spPB := by
  refine F.ok scPB (fun vs H Q E h => ?_) (fun cdv A outer s H vs Q E hr h => ?_)
  · obtain ⟨R, rs, r, rfl, _⟩ := h
    rfl
  · obtain ⟨R, rs0, r, rfl, eR, zz0, nf0, hlen, hq⟩ := h
    refine ⟨_, pss_cons (ps_if (pt_val (pe_call GL hr (by rfl) gL kL bL .nil pass0 (pa_cons (pv 0) (pa_cons (pv 1) pa_nil))))
          (pss_one (ps_expr (pe_bm0 PySem.F.plainAttrs_list PySem.F.slot_list_pop PySem.F.type_list_pop mt_pop (pv 0)))) pss_nil)
      (pss_cons (ps_expr (pe_bm PySem.F.plainAttrs_list PySem.F.slot_list_append PySem.F.type_list_append mt_append (pv 0) (pa_cons (pv 1) pa_nil)))
      (pss_cons (ps_set (i := 2) scPB.nd rfl (.inl rfl) (pe_lst pa_nil))
      (pss_cons (ps_while PassesOwn.never
            (PW.pt (pw_and (pt_cmpR op_gt (pe_callB call_len_seq (by rfl) ml PySem.boot_len (pa_cons (pv 0) pa_nil)) pe_int (nomark _)) (pw_and1 (pt_val (pe_call GM hr (by rfl) gM kM bM .nil pass0 (pa_cons (pv 0) (pa_cons (pe_op op_sub (pe_callB call_len_seq (by rfl) ml PySem.boot_len (pa_cons (pv 0) pa_nil)) pe_int) pa_nil)))))))
            (pss_cons (ps_expr (pe_bm PySem.F.plainAttrs_list PySem.F.slot_list_append PySem.F.type_list_append mt_append (pv 2) (pa_cons (pe_call GR hr (by rfl) gR kR bR .nil pass0 (pa_cons (pe_ix ix_list (pv 0) (pe_un un_neg pe_int) (fun _ _ => rfl)) (pa_cons (pe_ix ix_list (pv 0) (pe_un un_neg pe_int) (fun _ _ => rfl)) pa_nil))) pa_nil)))
              (pss_one (DS.ps_del31 (pv 0) (po_some (pe_un un_neg pe_int)) (po_some (pe_un un_neg pe_int))))))
      (pss_one (ps_ret (pv 2)))))), ?_⟩
    have zz1 : ZZ (push rs0 r) := zz_push r zz0
    have hp := push_lo rs0 r
    have hpl := push_len rs0 r
    refine ⟨.ref R, rfl, .int r, rfl, R, rs0, r, rfl, SqL.of eR, _, rfl, ?_⟩
    obtain ⟨m, nfm, em, hm1⟩ : ∃ m, NF m ∧ push rs0 r = m ++ [r] ∧ m = (if lo rs0 r = true then rs0.dropLast else rs0) := by
      refine ⟨_, ?_, hp, rfl⟩
      split
      · rcases List.eq_nil_or_concat rs0 with h | ⟨m1, d, h⟩
        · rw [h] at nf0 ⊢
          exact nf0
        · have h : rs0 = m1 ++ [d] := by rw [h]; simp
          rw [h] at nf0 ⊢
          rw [List.dropLast_concat]
          exact nf_prefix nf0
      · exact nf0
    rw [em] at zz1 hpl hq
    have hml : m.length ≤ 2500 := by
      rw [hm1]
      split
      · rw [List.length_dropLast]; omega
      · exact hlen
    have e1 : m.map V.int ++ [V.int r] = (m ++ [r]).map V.int := by rw [List.map_append]; rfl
    have start : ∀ C, (upd H R (.lst ((m ++ [r]).map V.int))) C = none → Bhd H C R [] [] (m ++ [r]) (upd (upd H R (.lst ((m ++ [r]).map V.int))) C (.lst [])) ∧ C ≠ R ∧ H C = none := by
      intro C nC
      have nCR : C ≠ R := fun z => by rw [z, upd_same] at nC; cases nC
      have nC0 : H C = none := by rw [upd_ne nCR] at nC; exact nC
      refine ⟨⟨.again nC0 .put, upd_same, trivial, by rw [upd_ne nCR.symm, upd_same]⟩, nCR, nC0⟩
    cases hl : lo rs0 r
    · rw [hl, if_neg (by decide)] at hm1
      subst hm1
      refine iteF ?_
      refine ⟨.ref R, rfl, .inl ⟨rfl, _, SqL.of eR⟩, .int r, rfl, R, _, _, rfl, rfl, eR, by rw [List.length_map]; exact small3000 (by omega), ?_⟩
      rw [e1]
      refine ⟨Nat.zero_le _, fun C nC => ?_⟩
      obtain ⟨g1, nCR, nC0⟩ := start C nC
      generalize upd (upd H R (.lst ((m ++ [r]).map V.int))) C (.lst []) = Hs at g1 ⊢
      refine ⟨fun n σ Hx => ∃ (xs : List V) (cs : List (Int × Int)) (mm : List Int), n = mm.length ∧ σ = [some (.ref R), some (.int r), some (.ref C)] ∧ Bhd H C R xs cs (mm ++ [r]) Hx ∧ Run (m ++ [r]) cs (mm ++ [r]) ∧ NF mm,
        ⟨_, [], [], m, rfl, rfl, g1, .nil _, nfm⟩, ?_⟩
      clear g1
      rintro n σ Hx ⟨xs, cs, mm, rfl, rfl, g, run, nf⟩
      have hrl := run.len
      simp only [List.length_append, List.length_singleton] at hrl
      have zzm := run.zz zz1
      have hm : ((mm ++ [r]).map V.int).length = mm.length + 1 := by simp
      refine ⟨.ref R, rfl, R, _, rfl, .inl (SqL.of g.r), _, 3, rfl, rfl, _, rfl, ?_⟩
      by_cases h3 : 3 ≤ mm.length
      · rw [show decide ((((mm ++ [r]).map V.int).length : Int) > 3) = true from decide_eq_true (by rw [hm]; omega)]
        obtain ⟨pre, b, c, d, rfl⟩ := last3 h3
        have hml : (pre ++ [b, c, d]).length = pre.length + 3 := by simp
        have el : pre ++ [b, c, d] ++ [r] = pre ++ b :: c :: d :: r :: [] := by simp
        have q0 : (pre ++ [b, c, d] ++ [r])[pre.length]? = some b := by rw [el, List.getElem?_append_right (by omega)]; simp
        have q1 : (pre ++ [b, c, d] ++ [r])[pre.length + 1]? = some c := by rw [el, List.getElem?_append_right (by omega)]; simp
        have q2 : (pre ++ [b, c, d] ++ [r])[pre.length + 2]? = some d := by rw [el, List.getElem?_append_right (by omega)]; simp
        have q3 : (pre ++ [b, c, d] ++ [r])[pre.length + 3]? = some r := by rw [el, List.getElem?_append_right (by omega)]; simp
        refine iteT ⟨.ref R, rfl, .ref R, rfl, R, _, rfl, .inl (SqL.of g.r), _, 3, rfl, rfl, R, pre ++ [b, c, d] ++ [r], pre.length, _, b, c, d, r, rfl, by rw [hm, hml]; omega, .inl (SqL.of g.r), zzm, q0, q1, q2, q3, fun H2 s2 => ⟨_, rfl, ?_⟩⟩
        have g2 := g.same s2
        rw [taken_get q0 q1 q2 q3]
        by_cases tk : Taken b c d r
        · rw [decide_eq_true tk]
          refine iteT ⟨fun σ Hx => ∃ m', m' < (pre ++ [b, c, d]).length ∧ ∃ (xs : List V) (cs : List (Int × Int)) (mm : List Int), m' = mm.length ∧ σ = [some (.ref R), some (.int r), some (.ref C)] ∧ Bhd H C R xs cs (mm ++ [r]) Hx ∧ Run (m ++ [r]) cs (mm ++ [r]) ∧ NF mm, fun _ _ z => z, ?_⟩
          have eR : H2 R = some (.lst ((pre ++ [b]).map V.int ++ [V.int c, V.int d, V.int r])) := by
            rw [g2.r]
            simp [List.map_append]
          refine ⟨.ref C, rfl, .inl ⟨rfl, _, SqL.of g2.c⟩, .ref R, rfl, 3, rfl, R, _, -3, .int c, rfl, rfl, SqL.of eR, atI_last3 _ _ _ _, .ref R, rfl, 2, rfl, R, _, -2, .int d, rfl, rfl, SqL.of eR, atI_last2' _ _ _ _, c, d, rfl, fun q nq => ?_⟩
          have s3 := same_new (o := .tup [.int (rg c d).1, .int (rg c d).2]) nq
          have g3 := (g2.same s3).cyc nC0 nCR (upd_same (H := H2) (a := q) (o := .tup [.int (rg c d).1, .int (rg c d).2]))
          have hxl : xs.length ≤ 2500 := by rw [g2.pa.length]; omega
          refine ⟨C, xs, .ref q, rfl, rfl, s3 _ _ g2.c, small3000 (by omega), ?_⟩
          have eR3 : (upd (upd H2 q (.tup [.int (rg c d).1, .int (rg c d).2])) C (.lst (xs ++ [.ref q]))) R = some (.lst ((pre ++ [b]).map V.int ++ [V.int c, V.int d, V.int r])) := by
            rw [upd_ne nCR.symm]
            exact s3 _ _ eR
          refine ⟨.ref R, rfl, 3, rfl, _, rfl, 1, rfl, _, rfl, rfl, rfl, R, (pre ++ [b]).map V.int, .int c, .int d, .int r, rfl, eR3, ?_⟩
          have g4 := g3.rest nCR (pre ++ [b] ++ [r])
          have e5 : (pre ++ [b]).map V.int ++ [V.int r] = (pre ++ [b] ++ [r]).map V.int := by simp [List.map_append]
          rw [e5]
          refine ⟨(pre ++ [b]).length, by simp, _, _, pre ++ [b], rfl, rfl, g4, ?_, nf_prefix (l := [c, d]) (by simpa using nf)⟩
          refine run.snoc ?_
          rw [el, List.append_assoc]
          exact (Step.here tk).prefix pre
        · rw [decide_eq_false tk]
          refine iteF ?_
          refine ⟨.ref C, rfl, hq _ C xs cs _ g2.ch nC0 g2.c g2.pa g2.r run (nf_push nf fun pre' b' c' d' e => ?_)⟩
          have e6 : pre' ++ [b', c', d', r] = (pre' ++ [b', c', d']) ++ [r] := by simp
          rw [e6] at e
          obtain ⟨e7, _⟩ := List.append_inj' e rfl
          obtain ⟨_, e8⟩ := List.append_inj' e7 rfl
          injection e8 with h1 h2
          injection h2 with h2 h3
          injection h3 with h3 _
          subst h1 h2 h3
          exact tk
      · rw [show decide ((((mm ++ [r]).map V.int).length : Int) > 3) = false from decide_eq_false (by rw [hm]; omega)]
        refine iteF ?_
        refine iteF ?_
        refine ⟨.ref C, rfl, hq _ C xs cs _ g.ch nC0 g.c g.pa g.r run (nf_push nf fun pre' b' c' d' e => ?_)⟩
        have : (mm ++ [r]).length = (pre' ++ [b', c', d', r]).length := by rw [e]
        simp only [List.length_append, List.length_cons, List.length_nil] at this
        omega
    · rw [hl, if_pos rfl] at hm1
      obtain ⟨u, hu⟩ : ∃ u, rs0 = m ++ [u] := by
        rcases List.eq_nil_or_concat rs0 with h | ⟨m1, d, h⟩
        · rw [h] at hl; cases hl
        · refine ⟨d, ?_⟩
          rw [hm1, h]
          simp
      have eR2 : H R = some (.lst (m.map V.int ++ [V.int u])) := by rw [eR, hu]; simp
      refine iteT ⟨.ref R, rfl, .inl ⟨rfl, _, SqL.of eR⟩, R, m.map V.int ++ [V.int u], .int u, rfl, rfl, eR2, by simp, ?_⟩
      refine ⟨.ref R, rfl, .inl ⟨rfl, _, SqL.of upd_same⟩, .int r, rfl, R, m.map V.int, _, rfl, rfl, by rw [upd_same, List.dropLast_concat], by rw [List.length_map]; exact small3000 (by omega), ?_⟩
      rw [upd_upd, e1]
      refine ⟨Nat.zero_le _, fun C nC => ?_⟩
      obtain ⟨g1, nCR, nC0⟩ := start C nC
      generalize upd (upd H R (.lst ((m ++ [r]).map V.int))) C (.lst []) = Hs at g1 ⊢
      refine ⟨fun n σ Hx => ∃ (xs : List V) (cs : List (Int × Int)) (mm : List Int), n = mm.length ∧ σ = [some (.ref R), some (.int r), some (.ref C)] ∧ Bhd H C R xs cs (mm ++ [r]) Hx ∧ Run (m ++ [r]) cs (mm ++ [r]) ∧ NF mm,
        ⟨_, [], [], m, rfl, rfl, g1, .nil _, nfm⟩, ?_⟩
      clear g1
      rintro n σ Hx ⟨xs, cs, mm, rfl, rfl, g, run, nf⟩
      have hrl := run.len
      simp only [List.length_append, List.length_singleton] at hrl
      have zzm := run.zz zz1
      have hm : ((mm ++ [r]).map V.int).length = mm.length + 1 := by simp
      refine ⟨.ref R, rfl, R, _, rfl, .inl (SqL.of g.r), _, 3, rfl, rfl, _, rfl, ?_⟩
      by_cases h3 : 3 ≤ mm.length
      · rw [show decide ((((mm ++ [r]).map V.int).length : Int) > 3) = true from decide_eq_true (by rw [hm]; omega)]
        obtain ⟨pre, b, c, d, rfl⟩ := last3 h3
        have hml : (pre ++ [b, c, d]).length = pre.length + 3 := by simp
        have el : pre ++ [b, c, d] ++ [r] = pre ++ b :: c :: d :: r :: [] := by simp
        have q0 : (pre ++ [b, c, d] ++ [r])[pre.length]? = some b := by rw [el, List.getElem?_append_right (by omega)]; simp
        have q1 : (pre ++ [b, c, d] ++ [r])[pre.length + 1]? = some c := by rw [el, List.getElem?_append_right (by omega)]; simp
        have q2 : (pre ++ [b, c, d] ++ [r])[pre.length + 2]? = some d := by rw [el, List.getElem?_append_right (by omega)]; simp
        have q3 : (pre ++ [b, c, d] ++ [r])[pre.length + 3]? = some r := by rw [el, List.getElem?_append_right (by omega)]; simp
        refine iteT ⟨.ref R, rfl, .ref R, rfl, R, _, rfl, .inl (SqL.of g.r), _, 3, rfl, rfl, R, pre ++ [b, c, d] ++ [r], pre.length, _, b, c, d, r, rfl, by rw [hm, hml]; omega, .inl (SqL.of g.r), zzm, q0, q1, q2, q3, fun H2 s2 => ⟨_, rfl, ?_⟩⟩
        have g2 := g.same s2
        rw [taken_get q0 q1 q2 q3]
        by_cases tk : Taken b c d r
        · rw [decide_eq_true tk]
          refine iteT ⟨fun σ Hx => ∃ m', m' < (pre ++ [b, c, d]).length ∧ ∃ (xs : List V) (cs : List (Int × Int)) (mm : List Int), m' = mm.length ∧ σ = [some (.ref R), some (.int r), some (.ref C)] ∧ Bhd H C R xs cs (mm ++ [r]) Hx ∧ Run (m ++ [r]) cs (mm ++ [r]) ∧ NF mm, fun _ _ z => z, ?_⟩
          have eR : H2 R = some (.lst ((pre ++ [b]).map V.int ++ [V.int c, V.int d, V.int r])) := by
            rw [g2.r]
            simp [List.map_append]
          refine ⟨.ref C, rfl, .inl ⟨rfl, _, SqL.of g2.c⟩, .ref R, rfl, 3, rfl, R, _, -3, .int c, rfl, rfl, SqL.of eR, atI_last3 _ _ _ _, .ref R, rfl, 2, rfl, R, _, -2, .int d, rfl, rfl, SqL.of eR, atI_last2' _ _ _ _, c, d, rfl, fun q nq => ?_⟩
          have s3 := same_new (o := .tup [.int (rg c d).1, .int (rg c d).2]) nq
          have g3 := (g2.same s3).cyc nC0 nCR (upd_same (H := H2) (a := q) (o := .tup [.int (rg c d).1, .int (rg c d).2]))
          have hxl : xs.length ≤ 2500 := by rw [g2.pa.length]; omega
          refine ⟨C, xs, .ref q, rfl, rfl, s3 _ _ g2.c, small3000 (by omega), ?_⟩
          have eR3 : (upd (upd H2 q (.tup [.int (rg c d).1, .int (rg c d).2])) C (.lst (xs ++ [.ref q]))) R = some (.lst ((pre ++ [b]).map V.int ++ [V.int c, V.int d, V.int r])) := by
            rw [upd_ne nCR.symm]
            exact s3 _ _ eR
          refine ⟨.ref R, rfl, 3, rfl, _, rfl, 1, rfl, _, rfl, rfl, rfl, R, (pre ++ [b]).map V.int, .int c, .int d, .int r, rfl, eR3, ?_⟩
          have g4 := g3.rest nCR (pre ++ [b] ++ [r])
          have e5 : (pre ++ [b]).map V.int ++ [V.int r] = (pre ++ [b] ++ [r]).map V.int := by simp [List.map_append]
          rw [e5]
          refine ⟨(pre ++ [b]).length, by simp, _, _, pre ++ [b], rfl, rfl, g4, ?_, nf_prefix (l := [c, d]) (by simpa using nf)⟩
          refine run.snoc ?_
          rw [el, List.append_assoc]
          exact (Step.here tk).prefix pre
        · rw [decide_eq_false tk]
          refine iteF ?_
          refine ⟨.ref C, rfl, hq _ C xs cs _ g2.ch nC0 g2.c g2.pa g2.r run (nf_push nf fun pre' b' c' d' e => ?_)⟩
          have e6 : pre' ++ [b', c', d', r] = (pre' ++ [b', c', d']) ++ [r] := by simp
          rw [e6] at e
          obtain ⟨e7, _⟩ := List.append_inj' e rfl
          obtain ⟨_, e8⟩ := List.append_inj' e7 rfl
          injection e8 with h1 h2
          injection h2 with h2 h3
          injection h3 with h3 _
          subst h1 h2 h3
          exact tk
      · rw [show decide ((((mm ++ [r]).map V.int).length : Int) > 3) = false from decide_eq_false (by rw [hm]; omega)]
        refine iteF ?_
        refine iteF ?_
        refine ⟨.ref C, rfl, hq _ C xs cs _ g.ch nC0 g.c g.pa g.r run (nf_push nf fun pre' b' c' d' e => ?_)⟩
        have : (mm ++ [r]).length = (pre' ++ [b', c', d', r]).length := by rw [e]
        simp only [List.length_append, List.length_cons, List.length_nil] at this
        omega
/-- what _counted holds -/
structure Stk (H : Hp) (C R : Addr) (xs : List V) (cs : List (Int × Int)) (rs : List Int) (Hx : Hp) : Prop where
  sm : Same H Hx
  c : Hx C = some (.lst xs)
  pa : PairsAt Hx xs cs
  r : Hx R = some (.lst (rs.map V.int))
def spCoL (K : PySem.W.Frag) : Sp := fun vs H Q _ => ∃ (a : Addr) (ns : List Int), vs = [.ref a] ∧ SqL K H a (ns.map V.int) ∧ ns.length ≤ 2500 ∧
  ∀ H' p c r xs cs rs, Same H H' → H p = none → H' p = some (.tup [.ref c, .ref r]) → H' c = some (.lst xs) → PairsAt H' xs cs → H' r = some (.lst (rs.map V.int)) → Run (tp ns) cs rs → NF rs → Q (.ref p) H'
def spCoT (K : PySem.W.Frag) : Sp := fun vs H Q _ => ∃ (a : Addr) (ns : List Int), vs = [.ref a] ∧ SqT K H a (ns.map V.int) ∧ ns.length ≤ 2500 ∧
  ∀ H' p c r xs cs rs, Same H H' → H p = none → H' p = some (.tup [.ref c, .ref r]) → H' c = some (.lst xs) → PairsAt H' xs cs → H' r = some (.lst (rs.map V.int)) → Run (tp ns) cs rs → NF rs → Q (.ref p) H'
theorem ok_Col {f fB : Addr} {fd fdB : FuncData} {k : Nat} (F : Fun K "_counted" "_counted" sCo f fd)
    (GB : FnOk P w K mg base CX0 (k + 3) fB fdB ["rest", "reading"] spPB) (gB : mg "put_behind" = some (.ref fB)) (kB : PySem.W.keepIn K (.ref fB) = true) (bB : Binds K fdB ["rest", "reading"] []) :
    FnOk P w K mg base CX0 (k + 4) f fd ["load"] (spCoL K) := by
  refine F.ok scCo (fun vs H Q E h => ?_) (fun cdv A outer s H vs Q E hr h => ?_)
  · obtain ⟨a, ns, rfl, _⟩ := h
    rfl
  · obtain ⟨a, ns, rfl, hS, hlen, hq⟩ := h
    refine ⟨_, pss_cons (ps_par (i := 1) (j := 2) (by rfl) scCo.nd rfl rfl (by decide) rfl rfl (pa_cons (pe_lst pa_nil) (pa_cons (pe_lst pa_nil) pa_nil)) (by rfl))
      (pss_cons (ps_for PassesOwn.never rfl (pi_list (pv 0)) (pg_name (i := 3) scCo.nd rfl (.inl rfl))
        (pss_one (ps_expr (pe_bm PySem.F.plainAttrs_list PySem.F.slot_list_extend PySem.F.type_list_extend mt_extend (pv 1) (pa_cons (pe_call GB hr (by rfl) gB kB bB .nil pass0 (pa_cons (pv 2) (pa_cons (pv 3) pa_nil))) pa_nil)))))
      (pss_one (ps_ret (pe_tup (pa_cons (pv 1) (pa_cons (pv 2) pa_nil)))))), ?_⟩
    refine ⟨Nat.zero_le _, fun C nC => ⟨Nat.zero_le _, fun R nR => ⟨.ref C, .ref R, rfl, ?_⟩⟩⟩
    have nCR : C ≠ R := fun z => by rw [← z, upd_same] at nR; cases nR
    have nR0 : H R = none := (same_new nC).free nR
    have sm0 : Same H (upd (upd H C (.lst [])) R (.lst [])) := (same_new nC).trans (same_new nR)
    have eC0 : (upd (upd H C (.lst [])) R (.lst [])) C = some (.lst []) := by rw [upd_ne nCR, upd_same]
    have eR0 : (upd (upd H C (.lst [])) R (.lst [])) R = some (.lst []) := upd_same
    generalize upd (upd H C (.lst [])) R (.lst []) = H0 at sm0 eC0 eR0 ⊢
    have hts : ∀ i, tp (ns.take i) = tp (ns.take i) := fun _ => rfl
    refine ⟨.ref a, rfl, a, rfl, ⟨_, sm0.seq hS⟩, for_list (K := K) (a := a) (xs := ns.map V.int) (fun i σ Hx => ∃ (xs : List V) (cs : List (Int × Int)) (rs : List Int) (r3 : Option V), σ = [some (.ref a), some (.ref C), some (.ref R), r3] ∧
      Stk H C R xs cs rs Hx ∧ Run (tp (ns.take i)) cs rs ∧ NF rs) ?_ ?_ ?_ ?_⟩
    · exact ⟨[], [], [], none, rfl, ⟨sm0, eC0, trivial, eR0⟩, .nil _, fun c q s => by have := s.len; simp at this⟩
    · rintro i σ Hx _ ⟨xs, cs, rs, r3, rfl, g, _⟩
      exact g.sm.seq hS
    · rintro i x σ Hx hx ⟨xs, cs, rs, r3, rfl, g, run, nf⟩
      obtain ⟨r, hr2, rfl⟩ := int_at hx
      have hin : i < ns.length := (List.getElem?_eq_some_iff.mp hr2).1
      have hrl := run.len
      have htl := tp_len (ns.take i)
      rw [List.length_take] at htl
      have zz := run.zz (tp_zz (ns.take i))
      refine ⟨.ref C, rfl, .inl ⟨rfl, _, SqL.of g.c⟩, .ref R, rfl, .int r, rfl, R, rs, r, rfl, g.r, zz, nf, by omega, fun H2 p ys cs2 rs2 ch np ep pa2 eR2 run2 nf2 => ?_⟩
      have eC2 : H2 C = some (.lst xs) := ch _ _ nCR g.c
      have npC : p ≠ C := fun z => by rw [z, g.c] at np; cases np
      have npR : p ≠ R := fun z => by rw [z, g.r] at np; cases np
      have sm2 : Same H H2 := fun b o e => ch b o (ne_of_none e nR0) (g.sm b o e)
      have run3 := stream hr2 run run2
      have hrl3 := run3.len
      have htl3 := tp_len (ns.take (i + 1))
      rw [List.length_take] at htl3
      have hxl := g.pa.length
      have hyl := pa2.length
      rw [List.length_append] at hrl3
      refine ⟨C, p, xs, ys, rfl, rfl, eC2, ep, Nat.le_of_lt (small3000 (by omega)), _, cs ++ cs2, rs2, _, rfl, ⟨same_again nC sm2, upd_same, ?_, by rw [upd_ne nCR.symm]; exact eR2⟩, run3, nf2⟩
      exact PairsAt.append (pairs_upd eC2 (ch_pairs ch g.r g.pa)) (pairs_upd eC2 pa2)
    · rintro σ Hx ⟨xs, cs, rs, r3, rfl, g, run, nf⟩
      have et2 : ns.take (ns.map V.int).length = ns := by rw [List.length_map]; exact List.take_length
      rw [et2] at run
      refine ⟨.ref C, rfl, .ref R, rfl, by show 2 ≤ sizeLine; decide, fun p np => ?_⟩
      have sp := same_new (o := .tup [.ref C, .ref R]) np
      exact hq _ p C R xs cs rs (g.sm.trans sp) (g.sm.free np) upd_same (sp _ _ g.c) (g.pa.same sp) (sp _ _ g.r) run nf
theorem ok_Cot {f fB : Addr} {fd fdB : FuncData} {k : Nat} (F : Fun K "_counted" "_counted" sCo f fd)
    (GB : FnOk P w K mg base CX0 (k + 3) fB fdB ["rest", "reading"] spPB) (gB : mg "put_behind" = some (.ref fB)) (kB : PySem.W.keepIn K (.ref fB) = true) (bB : Binds K fdB ["rest", "reading"] []) :
    FnOk P w K mg base CX0 (k + 4) f fd ["load"] (spCoT K) := by
  refine F.ok scCo (fun vs H Q E h => ?_) (fun cdv A outer s H vs Q E hr h => ?_)
  · obtain ⟨a, ns, rfl, _⟩ := h
    rfl
  · obtain ⟨a, ns, rfl, hS, hlen, hq⟩ := h
    refine ⟨_, pss_cons (ps_par (i := 1) (j := 2) (by rfl) scCo.nd rfl rfl (by decide) rfl rfl (pa_cons (pe_lst pa_nil) (pa_cons (pe_lst pa_nil) pa_nil)) (by rfl))
      (pss_cons (ps_for PassesOwn.never rfl (pi_tup (pv 0)) (pg_name (i := 3) scCo.nd rfl (.inl rfl))
        (pss_one (ps_expr (pe_bm PySem.F.plainAttrs_list PySem.F.slot_list_extend PySem.F.type_list_extend mt_extend (pv 1) (pa_cons (pe_call GB hr (by rfl) gB kB bB .nil pass0 (pa_cons (pv 2) (pa_cons (pv 3) pa_nil))) pa_nil)))))
      (pss_one (ps_ret (pe_tup (pa_cons (pv 1) (pa_cons (pv 2) pa_nil)))))), ?_⟩
    refine ⟨Nat.zero_le _, fun C nC => ⟨Nat.zero_le _, fun R nR => ⟨.ref C, .ref R, rfl, ?_⟩⟩⟩
    have nCR : C ≠ R := fun z => by rw [← z, upd_same] at nR; cases nR
    have nR0 : H R = none := (same_new nC).free nR
    have sm0 : Same H (upd (upd H C (.lst [])) R (.lst [])) := (same_new nC).trans (same_new nR)
    have eC0 : (upd (upd H C (.lst [])) R (.lst [])) C = some (.lst []) := by rw [upd_ne nCR, upd_same]
    have eR0 : (upd (upd H C (.lst [])) R (.lst [])) R = some (.lst []) := upd_same
    generalize upd (upd H C (.lst [])) R (.lst []) = H0 at sm0 eC0 eR0 ⊢
    have hts : ∀ i, tp (ns.take i) = tp (ns.take i) := fun _ => rfl
    refine ⟨.ref a, rfl, a, rfl, ⟨_, SqT_same sm0 hS⟩, for_tup (K := K) (a := a) (xs := ns.map V.int) (fun i σ Hx => ∃ (xs : List V) (cs : List (Int × Int)) (rs : List Int) (r3 : Option V), σ = [some (.ref a), some (.ref C), some (.ref R), r3] ∧
      Stk H C R xs cs rs Hx ∧ Run (tp (ns.take i)) cs rs ∧ NF rs) ?_ ?_ ?_ ?_⟩
    · exact ⟨[], [], [], none, rfl, ⟨sm0, eC0, trivial, eR0⟩, .nil _, fun c q s => by have := s.len; simp at this⟩
    · rintro i σ Hx _ ⟨xs, cs, rs, r3, rfl, g, _⟩
      exact SqT_same g.sm hS
    · rintro i x σ Hx hx ⟨xs, cs, rs, r3, rfl, g, run, nf⟩
      obtain ⟨r, hr2, rfl⟩ := int_at hx
      have hin : i < ns.length := (List.getElem?_eq_some_iff.mp hr2).1
      have hrl := run.len
      have htl := tp_len (ns.take i)
      rw [List.length_take] at htl
      have zz := run.zz (tp_zz (ns.take i))
      refine ⟨.ref C, rfl, .inl ⟨rfl, _, SqL.of g.c⟩, .ref R, rfl, .int r, rfl, R, rs, r, rfl, g.r, zz, nf, by omega, fun H2 p ys cs2 rs2 ch np ep pa2 eR2 run2 nf2 => ?_⟩
      have eC2 : H2 C = some (.lst xs) := ch _ _ nCR g.c
      have npC : p ≠ C := fun z => by rw [z, g.c] at np; cases np
      have npR : p ≠ R := fun z => by rw [z, g.r] at np; cases np
      have sm2 : Same H H2 := fun b o e => ch b o (ne_of_none e nR0) (g.sm b o e)
      have run3 := stream hr2 run run2
      have hrl3 := run3.len
      have htl3 := tp_len (ns.take (i + 1))
      rw [List.length_take] at htl3
      have hxl := g.pa.length
      have hyl := pa2.length
      rw [List.length_append] at hrl3
      refine ⟨C, p, xs, ys, rfl, rfl, eC2, ep, Nat.le_of_lt (small3000 (by omega)), _, cs ++ cs2, rs2, _, rfl, ⟨same_again nC sm2, upd_same, ?_, by rw [upd_ne nCR.symm]; exact eR2⟩, run3, nf2⟩
      exact PairsAt.append (pairs_upd eC2 (ch_pairs ch g.r g.pa)) (pairs_upd eC2 pa2)
    · rintro σ Hx ⟨xs, cs, rs, r3, rfl, g, run, nf⟩
      have et2 : ns.take (ns.map V.int).length = ns := by rw [List.length_map]; exact List.take_length
      rw [et2] at run
      refine ⟨.ref C, rfl, .ref R, rfl, by show 2 ≤ sizeLine; decide, fun p np => ?_⟩
      have sp := same_new (o := .tup [.ref C, .ref R]) np
      exact hq _ p C R xs cs rs (g.sm.trans sp) (g.sm.free np) upd_same (sp _ _ g.c) (g.pa.same sp) (sp _ _ g.r) run nf
def spCo (K : PySem.W.Frag) : Sp := fun vs H Q _ => ∃ (a : Addr) (ns : List Int), vs = [.ref a] ∧ Sq K H a (ns.map V.int) ∧ ns.length ≤ 2500 ∧
  ∀ H' p c r xs cs rs, Same H H' → H p = none → H' p = some (.tup [.ref c, .ref r]) → H' c = some (.lst xs) → PairsAt H' xs cs → H' r = some (.lst (rs.map V.int)) → Run (tp ns) cs rs → NF rs → Q (.ref p) H'
theorem ok_Co {f fB : Addr} {fd fdB : FuncData} {k : Nat} (F : Fun K "_counted" "_counted" sCo f fd)
    (GB : FnOk P w K mg base CX0 (k + 3) fB fdB ["rest", "reading"] spPB) (gB : mg "put_behind" = some (.ref fB)) (kB : PySem.W.keepIn K (.ref fB) = true) (bB : Binds K fdB ["rest", "reading"] []) :
    FnOk P w K mg base CX0 (k + 4) f fd ["load"] (spCo K) :=
  (both (ok_Col F GB gB kB bB) (ok_Cot F GB gB kB bB)).imp fun vs H Q E ⟨a, ns, e, hs, hl, q⟩ => hs.elim (fun z => .inl ⟨a, ns, e, z, hl, q⟩) (fun z => .inr ⟨a, ns, e, z, hl, q⟩)
end
end QG

/-! counts -/
namespace QH
open PySem PySem.Spec PyProof.Rows L2 KA PH PM PA PB PC RM RN QE QF QG
abbrev sInit : Stmt := inClass sClass 0
abbrev sOf : Stmt := inClass sClass 1
abbrev sPC : Stmt := inClass sClass 4
abbrev sPR : Stmt := inClass sClass 5
abbrev sPH : Stmt := inClass sClass 6
theorem scInit : FnScope ["self", "cycles", "rest"] ["self", "cycles", "rest"] (defScope sInit) := ⟨rfl, rfl, rfl, by decide +kernel, rfl, by decide +kernel, by decide +kernel⟩
theorem scOf : FnScope ["cls", "load", "cycles", "rest"] ["cls", "load"] (defScope sOf) := ⟨rfl, rfl, rfl, by decide +kernel, rfl, by decide +kernel, by decide +kernel⟩
theorem scPC : FnScope ["self"] ["self"] (defScope sPC) := ⟨rfl, rfl, rfl, by decide +kernel, rfl, by decide +kernel, by decide +kernel⟩
theorem scPR : FnScope ["self"] ["self"] (defScope sPR) := ⟨rfl, rfl, rfl, by decide +kernel, rfl, by decide +kernel, by decide +kernel⟩
theorem scPH : FnScope ["self"] ["self"] (defScope sPH) := ⟨rfl, rfl, rfl, by decide +kernel, rfl, by decide +kernel, by decide +kernel⟩
/-! ### sorted pairs -/
/-- the pair at a ref -/
def kOf (H : Hp) : V → Int × Int
  | .ref p => match H p with
    | some (.tup [.int a, .int b]) => (a, b)
    | _ => (0, 0)
  | _ => (0, 0)
theorem kOf_at {H : Hp} {p : Addr} {r : Int × Int} (h : H p = some (.tup [.int r.1, .int r.2])) : kOf H (.ref p) = r := by
  show (match H p with | some (.tup [.int a, .int b]) => (a, b) | _ => (0, 0)) = r
  rw [h]
theorem pairs_key {H : Hp} : ∀ {xs : List V} {rs : List (Int × Int)}, PairsAt H xs rs → rs = xs.map (kOf H) ∧ ∀ x ∈ xs, ∃ t, x = V.ref t ∧ H t = some (.tup [.int (kOf H x).1, .int (kOf H x).2])
  | [], [], _ => ⟨rfl, fun _ z => (List.not_mem_nil z).elim⟩
  | x :: xs, r :: rs, ⟨⟨p, h1, h2⟩, h3⟩ => by
    obtain ⟨e, all⟩ := pairs_key h3
    subst h1
    have k := kOf_at h2
    refine ⟨by rw [List.map_cons, k, ← e], fun x hx => ?_⟩
    rcases List.mem_cons.mp hx with z | z
    · exact ⟨p, z, by rw [z, k]; exact h2⟩
    · exact all x z
  | [], _ :: _, h => h.elim
  | _ :: _, [], h => h.elim
theorem pairs_of {H : Hp} : ∀ {xs : List V}, (∀ x ∈ xs, ∃ t, x = V.ref t ∧ H t = some (.tup [.int (kOf H x).1, .int (kOf H x).2])) → PairsAt H xs (xs.map (kOf H))
  | [], _ => trivial
  | x :: xs, h => ⟨h x List.mem_cons_self, pairs_of fun y hy => h y (List.mem_cons_of_mem _ hy)⟩
theorem sorted_out {H : Hp} {xs ys : List V} {rs : List (Int × Int)} (pa : PairsAt H xs rs) (h1 : SrtO.Srtd (ltP (kOf H)) ys) (h2 : SrtO.Stb (ltP (kOf H)) ys xs) : ∃ ds, PairsAt H ys ds ∧ ds.Perm rs ∧ ds.Pairwise Le := by
  obtain ⟨e, all⟩ := pairs_key pa
  refine ⟨ys.map (kOf H), pairs_of fun y hy => all y (h2.perm.mem_iff.mp hy), by rw [e]; exact h2.perm.map _, ?_⟩
  rw [List.pairwise_map]
  refine h1.imp fun {x y} h => ?_
  have := SrtO.lexB_no.mp h
  show (kOf H x).1 < (kOf H y).1 ∨ ((kOf H x).1 = (kOf H y).1 ∧ (kOf H x).2 ≤ (kOf H y).2)
  omega
/-- cls(..), cls a parameter that holds a class -/
theorem pe_makeL {X : Cx} {CX : CXT} {k i : Nat} {C f : Addr} {fd : FuncData} {ps : List Str} {sp : Sp} {dvs : List V} {ds : List Value} {E : XK} {x : Str} {p pos : Pos} {e : Expr} {es : List Expr} {t : TA}
    (M : Mk X.K C f) (F : FnOk X.prog X.w X.K X.mg X.base CX k f fd ps sp) (hr : Room (k + 1) X.A) (hN : X.N[i]? = some x) (hv : Vis X.env.scope x) (hb : Binds X.K fd ps ds) (hd : Vals dvs ds) (hx : Passes CX X E) (ha : PA X (e :: es) t)
    (hdb : (x == ("__debug__" : Str)) = false := by decide) (hcd : (x == ("__classdict__" : Str)) = false := by decide)
    (he : starEach (e :: es) X.env = (false, eval e X.env) :: starEach es X.env := by rfl) (hpl : (backTo pos (starEach es X.env)).any (·.1) = false := by rfl) :
    PE X (.Call (.Name x p) (e :: es) [] pos) (fun σ H Q => σ[i]? = some (some (.ref C)) ∧ tMake C sp dvs E t σ H Q) := by
  refine ⟨fun pins s σ H Q I ⟨hs, ht⟩ => ?_⟩
  refine wpAny_Call_Name_kw (thn ((pe_var (pos := p) hN hv hdb hcd).run pins s σ H (fun v H1 => v = .ref C ∧ H1 = H) I ⟨.ref C, hs, rfl, rfl⟩) fun u s1 ⟨v, H1, I1, r1, e1, e2⟩ => ?_)
  subst e1 e2
  cases r1
  exact PySem.W.callWith_K (h₀ := X.base) I.ok.mod.kin M.kp (thn (ha.run pos pins s1 σ _ _ I1 ht) fun us s2 ⟨vs, H2, I2, r, q⟩ => ⟨I2.kIn, run_make M F hr hb hd hx I2 r q⟩) he hpl
/-- a count stands at x -/
def CountAt (H : Hp) (C x : Addr) (ds : List (Int × Int)) (rs : List Int) : Prop := ∃ (dx t1 t2 : Addr) (ys : List V), H x = some (.ins C dx [("_cycles", .ref t1), ("_rest", .ref t2)]) ∧ H t1 = some (.tup ys) ∧ PairsAt H ys ds ∧ H t2 = some (.tup (rs.map V.int))
theorem CountAt.same {H H' : Hp} {C x : Addr} {ds : List (Int × Int)} {rs : List Int} (h : CountAt H C x ds rs) (s : Same H H') : CountAt H' C x ds rs := by
  obtain ⟨dx, t1, t2, ys, h1, h2, h3, h4⟩ := h
  exact ⟨dx, t1, t2, ys, s _ _ h1, s _ _ h2, h3.same s, s _ _ h4⟩
/-- what of the text the class has -/
structure Cnt (K : PySem.W.Frag) (C : Addr) : Prop where
  cl : Cls K C
  nC : NoAttr K C "_cycles"
  nR : NoAttr K C "_rest"
theorem pairs_ne {H H' : Hp} {x : Addr} (k : ∀ b o, b ≠ x → H b = some o → H' b = some o) (hx : ∀ o, H x = some o → ∃ C d fs, o = .ins C d fs) : ∀ {xs : List V} {rs : List (Int × Int)}, PairsAt H xs rs → PairsAt H' xs rs
  | [], [], _ => trivial
  | y :: xs, r :: rs, ⟨⟨p, h1, h2⟩, h3⟩ => ⟨⟨p, h1, k p _ (fun z => by
      subst z
      obtain ⟨C, d, fs, e⟩ := hx _ h2
      cases e) h2⟩, pairs_ne k hx h3⟩
  | [], _ :: _, h => h.elim
  | _ :: _, [], h => h.elim
section
variable {P : Program} {w : World} {K : PySem.W.Frag} {mg : Str → Option Value} {base : Heap} {C : Addr}
def spInit (K : PySem.W.Frag) (C : Addr) : Sp := fun vs H Q _ => ∃ (x c r dx : Addr) (xs : List V) (cs : List (Int × Int)) (rs : List Int), vs = [.ref x, .ref c, .ref r] ∧ H x = some (.ins C dx []) ∧ H c = some (.lst xs) ∧ PairsAt H xs cs ∧ H r = some (.lst (rs.map V.int)) ∧
  ∀ H' ds, (∀ b o, b ≠ x → H b = some o → H' b = some o) → CountAt H' C x ds rs → ds.Perm cs → ds.Pairwise Le → Q .non H'
theorem ok_init {f : Addr} {fd : FuncData} {k : Nat} (F : Fun K "__init__" "Count.__init__" sInit f fd) (T : Cnt K C) (ms : mg "sorted" = none) (mt : mg "tuple" = none) : FnOk P w K mg base CX0 (k + 1) f fd ["self", "cycles", "rest"] (spInit K C) := by
  refine F.ok scInit (fun vs H Q E h => ?_) (fun cdv A outer s H vs Q E hr h => ?_)
  · obtain ⟨x, c, r, dx, xs, cs, rs, rfl, _⟩ := h
    rfl
  · obtain ⟨x, c, r, dx, xs, cs, rs, rfl, hx, hc, pa, hrr, hq⟩ := h
    refine ⟨_, pss_cons (ps_fld (pv 0) (pe_callTy call_tuple_of (by rfl) mt (by decide +kernel) (pa_cons (pe_callB cr_sortedPO (by rfl) ms (by decide +kernel) (pa_cons (pv 1) pa_nil)) pa_nil)) rfl)
      (pss_one (ps_fld (pv 0) (pe_callTy call_tuple_of (by rfl) mt (by decide +kernel) (pa_cons (pv 2) pa_nil)) rfl)), ?_⟩
    refine ⟨.ref c, rfl, c, xs, kOf H, rfl, SqL.of hc, (pairs_key pa).2, fun ys p h1 h2 np => ?_⟩
    obtain ⟨ds, pd, perm, srt⟩ := sorted_out pa h1 h2
    refine ⟨p, ys, rfl, .inl ⟨SqL.of upd_same, fun t1 nt1 => ?_⟩⟩
    have s1 : Same H (upd (upd H p (.lst ys)) t1 (.tup ys)) := (same_new np).trans (same_new nt1)
    have g1 := upd_same (H := upd H p (.lst ys)) (a := t1) (o := .tup ys)
    generalize upd (upd H p (.lst ys)) t1 (.tup ys) = H1 at s1 g1 ⊢
    have hx1 := s1 _ _ hx
    refine ⟨.ref x, rfl, x, C, dx, [], rfl, hx1, T.cl, T.nC, by decide, ?_⟩
    have nrx : r ≠ x := fun z => by rw [z, hx] at hrr; cases hrr
    have nt1x : t1 ≠ x := fun z => by rw [z, hx1] at g1; cases g1
    have hr1 : (upd H1 x (.ins C dx (putF "_cycles" (.ref t1) []))) r = some (.lst (rs.map V.int)) := by rw [upd_ne nrx]; exact s1 _ _ hrr
    refine ⟨.ref r, rfl, r, _, rfl, .inl ⟨SqL.of hr1, fun t2 nt2 => ?_⟩⟩
    have nt2x : t2 ≠ x := fun z => by rw [z, upd_same] at nt2; cases nt2
    have hx2 : (upd (upd H1 x (.ins C dx (putF "_cycles" (.ref t1) []))) t2 (.tup (rs.map V.int))) x = some (.ins C dx [("_cycles", .ref t1)]) := by rw [upd_ne nt2x.symm, upd_same]; rfl
    have n12 : t1 ≠ t2 := fun z => by rw [← z, upd_ne nt1x, g1] at nt2; cases nt2
    refine ⟨.ref x, rfl, x, C, dx, [("_cycles", .ref t1)], rfl, hx2, T.cl, T.nR, by show 1 < 1000; decide, ?_⟩
    have keep : ∀ b o, b ≠ x → H b = some o → (upd (upd (upd H1 x (.ins C dx (putF "_cycles" (.ref t1) []))) t2 (.tup (rs.map V.int))) x (.ins C dx (putF "_rest" (.ref t2) [("_cycles", .ref t1)]))) b = some o := fun b o nb e => by
      have e1 := s1 _ _ e
      have nb2 : b ≠ t2 := fun z => by rw [← z, upd_ne nb, e1] at nt2; cases nt2
      rw [upd_ne nb, upd_ne nb2, upd_ne nb]
      exact e1
    refine hq _ ds keep ⟨dx, t1, t2, ys, ?_, ?_, pairs_ne keep (fun o e => by rw [hx] at e; cases e; exact ⟨_, _, _, rfl⟩) pd, ?_⟩ perm srt
    · rw [upd_same]
      rfl
    · rw [upd_ne nt1x, upd_ne n12, upd_ne nt1x]
      exact g1
    · rw [upd_ne nt2x, upd_same]
def spOf (K : PySem.W.Frag) (C : Addr) : Sp := fun vs H Q _ => ∃ (a : Addr) (ns : List Int), vs = [.ref C, .ref a] ∧ Sq K H a (ns.map V.int) ∧ ns.length ≤ 2500 ∧
  ∀ H' x cs ds rs, Same H H' → H x = none → CountAt H' C x ds rs → Run (tp ns) cs rs → NF rs → ds.Perm cs → ds.Pairwise Le → Q (.ref x) H'
theorem ok_of {f fI fO : Addr} {fd fdI fdO : FuncData} {k : Nat} (F : Fun K "of" "Count.of" sOf f fd) (M : Mk K C fI)
    (GI : FnOk P w K mg base CX0 (k + 2) fI fdI ["self", "cycles", "rest"] (spInit K C)) (bI : Binds K fdI ["self", "cycles", "rest"] [])
    (GO : FnOk P w K mg base CX0 (k + 3) fO fdO ["load"] (spCo K)) (gO : mg "_counted" = some (.ref fO)) (kO : PySem.W.keepIn K (.ref fO) = true) (bO : Binds K fdO ["load"] []) : FnOk P w K mg base CX0 (k + 4) f fd ["cls", "load"] (spOf K C) := by
  refine F.ok scOf (fun vs H Q E h => ?_) (fun cdv A outer s H vs Q E hr h => ?_)
  · obtain ⟨a, ns, rfl, _⟩ := h
    rfl
  · obtain ⟨a, ns, rfl, hS, hlen, hq⟩ := h
    refine ⟨_, pss_cons (ps_asg (pe_call GO hr (by rfl) gO kO bO .nil pass0 (pa_cons (pv 1) pa_nil)) (pg_tup rfl (pgs_cons (pg_name (i := 2) scOf.nd rfl (.inl rfl)) (pgs_cons (pg_name (i := 3) scOf.nd rfl (.inl rfl)) pgs_nil))))
      (pss_one (ps_ret (pe_makeL (i := 0) M GI hr rfl (.inl rfl) bI .nil pass0 (pa_cons (pv 2) (pa_cons (pv 3) pa_nil))))), ?_⟩
    refine ⟨.ref a, rfl, a, ns, rfl, hS, hlen, fun H1 p c r xs cs rs s1 np ep ec pa er run nf => ?_⟩
    refine ⟨p, _, rfl, SqT.of ep, rfl, .ref c, [.ref r], rfl, .ref r, [], rfl, rfl, rfl, .ref c, rfl, .ref r, rfl, fun x dx nx ndx ne => ?_⟩
    have s2 : Same H1 (upd (upd H1 dx (.own x)) x (.ins C dx [])) := (same_new ndx).trans (same_new (by rw [upd_ne ne.symm]; exact nx))
    refine ⟨x, c, r, dx, xs, cs, rs, rfl, upd_same, s2 _ _ ec, pa.same s2, s2 _ _ er, fun H' ds keep ca perm srt => ⟨rfl, ?_⟩⟩
    have s3 : Same H1 H' := fun b o e => keep b o (ne_of_none e nx) (s2 _ _ e)
    exact hq H' x cs ds rs (s1.trans s3) (s1.free nx) ca run nf perm srt
def spPC (C : Addr) : Sp := fun vs H Q _ => ∃ (x : Addr) (ds : List (Int × Int)) (rs : List Int), vs = [.ref x] ∧ CountAt H C x ds rs ∧ ∀ t ys, H t = some (.tup ys) → PairsAt H ys ds → Q (.ref t) H
def spPR (C : Addr) : Sp := fun vs H Q _ => ∃ (x : Addr) (ds : List (Int × Int)) (rs : List Int), vs = [.ref x] ∧ CountAt H C x ds rs ∧ ∀ t, H t = some (.tup (rs.map V.int)) → Q (.ref t) H
theorem ok_PC {f : Addr} {fd : FuncData} {k : Nat} (F : Fun K "cycles" "Count.cycles" sPC f fd) (T : Cnt K C) : FnOk P w K mg base CX0 (k + 1) f fd ["self"] (spPC C) := by
  refine F.ok scPC (fun vs H Q E h => ?_) (fun cdv A outer s H vs Q E hr h => ?_)
  · obtain ⟨x, ds, rs, rfl, _⟩ := h
    rfl
  · obtain ⟨x, ds, rs, rfl, ⟨dx, t1, t2, ys, h1, h2, h3, h4⟩, hq⟩ := h
    refine ⟨_, pss_one (ps_ret (pe_fld (pv 0) rfl)), ?_⟩
    exact ⟨.ref x, rfl, x, C, dx, _, .ref t1, rfl, h1, T.cl, T.nC, rfl, hq t1 ys h2 h3⟩
theorem ok_PR {f : Addr} {fd : FuncData} {k : Nat} (F : Fun K "rest" "Count.rest" sPR f fd) (T : Cnt K C) : FnOk P w K mg base CX0 (k + 1) f fd ["self"] (spPR C) := by
  refine F.ok scPR (fun vs H Q E h => ?_) (fun cdv A outer s H vs Q E hr h => ?_)
  · obtain ⟨x, ds, rs, rfl, _⟩ := h
    rfl
  · obtain ⟨x, ds, rs, rfl, ⟨dx, t1, t2, ys, h1, h2, h3, h4⟩, hq⟩ := h
    refine ⟨_, pss_one (ps_ret (pe_fld (pv 0) rfl)), ?_⟩
    exact ⟨.ref x, rfl, x, C, dx, _, .ref t2, rfl, h1, T.cl, T.nR, rfl, hq t2 h4⟩
def spPH (C : Addr) : Sp := fun vs H Q _ => ∃ (x : Addr) (ds : List (Int × Int)) (rs : List Int), vs = [.ref x] ∧ CountAt H C x ds rs ∧ ds.length ≤ 2500 ∧ rs.length ≤ 2500 ∧ ZZ rs ∧ ∀ H' t ys es, Same H H' → H' t = some (.tup ys) → PairsAt H' ys es → es.Perm (ds ++ ds ++ sw rs) → es.Pairwise Le → Q (.ref t) H'
theorem ok_PH {f fS : Addr} {fd fdS : FuncData} {k : Nat} (F : Fun K "half_cycles" "Count.half_cycles" sPH f fd) (T : Cnt K C) (GS : FnOk P w K mg base CX0 (k + 3) fS fdS ["load"] (spSw K)) (gS : mg "swings" = some (.ref fS)) (kS : PySem.W.keepIn K (.ref fS) = true) (bS : Binds K fdS ["load"] [])
    (ms : mg "sorted" = none) (mt : mg "tuple" = none) : FnOk P w K mg base CX0 (k + 4) f fd ["self"] (spPH C) := by
  refine F.ok scPH (fun vs H Q E h => ?_) (fun cdv A outer s H vs Q E hr h => ?_)
  · obtain ⟨x, ds, rs, rfl, _⟩ := h
    rfl
  · obtain ⟨x, ds, rs, rfl, ⟨dx, t1, t2, ys, h1, h2, h3, h4⟩, ld, lr, zz, hq⟩ := h
    refine ⟨_, pss_one (ps_ret (pe_callTy call_tuple_of (by rfl) mt (by decide +kernel) (pa_cons (pe_callB cr_sortedPO (by rfl) ms (by decide +kernel) (pa_cons (pe_lst (StX.pa_star (pe_fld (pv 0) rfl) (StX.pa_star (pe_fld (pv 0) rfl) (StX.pa_star (pe_call GS hr (by rfl) gS kS bS .nil pass0 (pa_cons (pe_fld (pv 0) rfl) pa_nil)) pa_nil)))) pa_nil)) pa_nil))), ?_⟩
    refine ⟨.ref x, rfl, x, C, dx, _, .ref t1, rfl, h1, T.cl, T.nC, rfl, t1, ys, rfl, .inl (SqT.of h2), .ref x, rfl, x, C, dx, _, .ref t1, rfl, h1, T.cl, T.nC, rfl, t1, ys, rfl, .inl (SqT.of h2), .ref x, rfl, x, C, dx, _, .ref t2, rfl, h1, T.cl, T.nR, rfl, t2, rs, rfl, .inr (SqT.of h4), lr, fun H1 p xs s1 np ep pa => ?_⟩
    rw [zz_tp zz] at pa
    have pall : PairsAt H1 (ys ++ (ys ++ (xs ++ []))) (ds ++ ds ++ sw rs) := by
      rw [List.append_nil, List.append_assoc]
      exact (h3.same s1).append ((h3.same s1).append pa)
    refine ⟨p, xs, rfl, .inr (SqL.of ep), ?_, fun l nl => ?_⟩
    · rw [pall.length]
      simp only [List.length_append, sw_len]
      exact Nat.le_trans (show ds.length + ds.length + (rs.length - 1) ≤ 10000 by omega) (by decide)
    have s2 := same_new (o := .lst (ys ++ (ys ++ (xs ++ [])))) nl
    have pl := pall.same s2
    refine ⟨l, _, kOf _, rfl, SqL.of upd_same, (pairs_key pl).2, fun zs q g1 g2 nq => ?_⟩
    obtain ⟨es, pe, perm, srt⟩ := sorted_out pl g1 g2
    refine ⟨q, zs, rfl, .inl ⟨SqL.of upd_same, fun t nt => ?_⟩⟩
    have s3 := (same_new (o := .lst zs) nq).trans (same_new (o := .tup zs) nt)
    exact hq _ t zs es (s1.trans (s2.trans s3)) upd_same (pe.same s3) perm srt
end
end QH

/-! changes of a load, as mathematics -/
namespace KM
/-- how often a letter differs from the one before, the first of all being a -/
def cf : Bool → List Bool → Nat
  | _, [] => 0
  | a, b :: r => (if a = b then 0 else 1) + cf b r
def cnt : List Bool → Nat
  | [] => 0
  | a :: r => cf a r
def cfO : Option Bool → List Bool → Nat
  | none, l => cnt l
  | some a, l => cf a l
/-- the letter of a reading: true for L -/
def lett (lo hi : Int) (r : Int) : Option Bool := if r ≤ lo then some true else if hi ≤ r then some false else none
def lets (lo hi : Int) (ns : List Int) : List Bool := ns.filterMap (lett lo hi)
def chg (ns : List Int) (lo hi : Int) : Nat := cnt (lets lo hi ns)
theorem cf_tri (a b : Bool) : ∀ l : List Bool, cf a l ≤ (if a = b then 0 else 1) + cf b l
  | [] => Nat.zero_le _
  | c :: r => by
    simp only [cf]
    cases a <;> cases b <;> cases c <;> simp <;> omega
theorem cf_mono : ∀ {l m : List Bool}, l.Sublist m → ∀ a, cf a l ≤ cf a m := by
  intro l m h
  induction h with
  | slnil => intro a; exact Nat.le_refl _
  | @cons l m b h ih =>
    intro a
    have h1 := cf_tri a b l
    have h2 := ih b
    simp only [cf]
    omega
  | @cons_cons l m b h ih =>
    intro a
    have h2 := ih b
    simp only [cf]
    omega
theorem cnt_mono : ∀ {l m : List Bool}, l.Sublist m → cnt l ≤ cnt m := by
  intro l m h
  induction h with
  | slnil => exact Nat.le_refl _
  | @cons l m b h ih =>
    cases m with
    | nil =>
      cases h
      exact Nat.le_refl _
    | cons d r =>
      show cnt l ≤ (if b = d then 0 else 1) + cf d r
      have : cnt (d :: r) = cf d r := rfl
      omega
  | @cons_cons l m b h ih => exact cf_mono h b
theorem lets_sub {lo hi lo2 hi2 : Int} (h1 : lo ≤ lo2) (h2 : hi2 ≤ hi) (h3 : lo2 < hi2) : ∀ ns : List Int, (lets lo hi ns).Sublist (lets lo2 hi2 ns)
  | [] => .slnil
  | r :: t => by
    have ih := lets_sub h1 h2 h3 t
    have key : lett lo hi r = none ∨ lett lo hi r = lett lo2 hi2 r := by
      unfold lett
      by_cases a : r ≤ lo
      · right
        rw [if_pos a, if_pos (by omega)]
      · rw [if_neg a]
        by_cases b : hi ≤ r
        · right
          rw [if_pos b, if_neg (by omega), if_pos (by omega)]
        · left
          rw [if_neg b]
    show ((r :: t).filterMap (lett lo hi)).Sublist ((r :: t).filterMap (lett lo2 hi2))
    rw [List.filterMap_cons, List.filterMap_cons]
    rcases key with e | e
    · rw [e]
      dsimp only
      cases lett lo2 hi2 r with
      | none => exact ih
      | some b => exact .cons _ ih
    · rw [← e]
      cases lett lo hi r with
      | none => exact ih
      | some b => exact .cons_cons _ ih
theorem chg_range {lo hi lo2 hi2 : Int} (h1 : lo ≤ lo2) (h2 : hi2 ≤ hi) (h3 : lo2 < hi2) (ns : List Int) : chg ns lo hi ≤ chg ns lo2 hi2 := cnt_mono (lets_sub h1 h2 h3 ns)
theorem chg_sub {l m : List Int} (h : l.Sublist m) (lo hi : Int) : chg l lo hi ≤ chg m lo hi := cnt_mono (h.filterMap _)
theorem chg_put (ns : List Int) (k : Nat) (v lo hi : Int) : chg ns lo hi ≤ chg (ns.take k ++ [v] ++ ns.drop k) lo hi := by
  refine chg_sub ?_ lo hi
  have e : ns = ns.take k ++ ns.drop k := (List.take_append_drop k ns).symm
  have h1 : (ns.take k).Sublist (ns.take k ++ [v]) := List.sublist_append_left _ _
  have h2 := h1.append (List.Sublist.refl (ns.drop k))
  rw [List.take_append_drop] at h2
  exact h2
theorem lets_drop {lo hi : Int} {ns : List Int} {i : Nat} {r : Int} (h : ns[i]? = some r) : lets lo hi (ns.drop i) = (match lett lo hi r with | none => lets lo hi (ns.drop (i + 1)) | some b => b :: lets lo hi (ns.drop (i + 1))) := by
  obtain ⟨h1, h2⟩ := List.getElem?_eq_some_iff.mp h
  rw [List.drop_eq_getElem_cons h1, h2]
  unfold lets
  rw [List.filterMap_cons]
  cases lett lo hi r <;> rfl
theorem lets_take {lo hi : Int} {ns : List Int} {i : Nat} {r : Int} (h : ns[i]? = some r) : lets lo hi (ns.take (i + 1)) = (match lett lo hi r with | none => lets lo hi (ns.take i) | some b => lets lo hi (ns.take i) ++ [b]) := by
  rw [List.take_add_one, h]
  unfold lets
  rw [List.filterMap_append]
  show _ ++ List.filterMap _ [r] = _
  rw [List.filterMap_cons]
  cases lett lo hi r with
  | none => simp
  | some b => rfl
theorem lets_len (lo hi : Int) (ns : List Int) : (lets lo hi ns).length ≤ ns.length := List.length_filterMap_le _ _
/-- the number of turns of a zip with itself, one on, whose two differ -/
theorem cnt_drop {l : List Bool} {i : Nat} {a b : Bool} (h1 : l[i]? = some a) (h2 : l[i + 1]? = some b) : cnt (l.drop i) = (if a = b then 0 else 1) + cnt (l.drop (i + 1)) := by
  obtain ⟨k1, e1⟩ := List.getElem?_eq_some_iff.mp h1
  obtain ⟨k2, e2⟩ := List.getElem?_eq_some_iff.mp h2
  rw [List.drop_eq_getElem_cons k1, e1, List.drop_eq_getElem_cons k2, e2]
  rfl
theorem cnt_end {l : List Bool} {i : Nat} (h : l.length ≤ i + 1) : cnt (l.drop i) = 0 := by
  have : (l.drop i).length ≤ 1 := by rw [List.length_drop]; omega
  match l.drop i, this with
  | [], _ => rfl
  | [_], _ => rfl
end KM

/-! changes decide the half-cycles, as mathematics -/
namespace RC
open KM PM RM RN
/-- a range holds another one -/
def hl (lo hi : Int) (r : Int × Int) : Bool := decide (r.1 ≤ lo) && decide (hi ≤ r.2)
def nh (lo hi : Int) (rs : List (Int × Int)) : Nat := rs.countP (hl lo hi)
def b1 (b : Bool) : Nat := if b = true then 1 else 0
theorem nh_cons (lo hi : Int) (r : Int × Int) (rs : List (Int × Int)) : nh lo hi (r :: rs) = b1 (hl lo hi r) + nh lo hi rs := by
  unfold nh b1
  rw [List.countP_cons]
  omega
theorem nh_app (lo hi : Int) (rs ss : List (Int × Int)) : nh lo hi (rs ++ ss) = nh lo hi rs + nh lo hi ss := List.countP_append
theorem nh_perm {lo hi : Int} {rs ss : List (Int × Int)} (h : rs.Perm ss) : nh lo hi rs = nh lo hi ss := h.countP_eq _
/-- a letter is read, some before -/
def cl (lo hi : Int) (o : Option Bool) (ns : List Int) : Nat := cfO o (lets lo hi ns)
def d2 (o : Option Bool) (b : Bool) : Nat := match o with
  | none => 0
  | some a => if a = b then 0 else 1
theorem cl_nil (lo hi : Int) (o : Option Bool) : cl lo hi o [] = 0 := by cases o <;> rfl
theorem cl_cons (lo hi : Int) (o : Option Bool) (x : Int) (ns : List Int) : cl lo hi o (x :: ns) = match lett lo hi x with
    | none => cl lo hi o ns
    | some b => d2 o b + cl lo hi (some b) ns := by
  unfold cl lets
  rw [List.filterMap_cons]
  cases lett lo hi x with
  | none => rfl
  | some b =>
    cases o with
    | none => show cf b _ = 0 + cf b _; omega
    | some a => rfl
theorem lett_lo {lo hi x : Int} (h : x ≤ lo) : lett lo hi x = some true := if_pos h
theorem lett_hi {lo hi x : Int} (h0 : lo < hi) (h : hi ≤ x) : lett lo hi x = some false := by unfold lett; rw [if_neg (by omega), if_pos h]
theorem lett_no {lo hi x : Int} (h1 : lo < x) (h2 : x < hi) : lett lo hi x = none := by unfold lett; rw [if_neg (by omega), if_neg (by omega)]
theorem lett3 (lo hi x : Int) (h0 : lo < hi) : (x ≤ lo ∧ lett lo hi x = some true) ∨ (hi ≤ x ∧ lett lo hi x = some false) ∨ (lo < x ∧ x < hi ∧ lett lo hi x = none) := by
  by_cases a : x ≤ lo
  · exact .inl ⟨a, lett_lo a⟩
  · by_cases b : hi ≤ x
    · exact .inr (.inl ⟨b, lett_hi h0 b⟩)
    · exact .inr (.inr ⟨by omega, by omega, lett_no (by omega) (by omega)⟩)
theorem hl_iff {lo hi : Int} {a b : Int} : hl lo hi (a, b) = decide (a ≤ lo ∧ hi ≤ b) := by
  unfold hl
  by_cases h1 : a ≤ lo <;> by_cases h2 : hi ≤ b <;> simp [h1, h2]
theorem four_up {lo hi a b c d : Int} (h0 : lo < hi) (post : List Int) (o : Option Bool) (h1 : a ≤ c) (h2 : c < b) (h3 : b ≤ d) : cl lo hi o (a :: b :: c :: d :: post) = cl lo hi o (a :: d :: post) + 2 * b1 (hl lo hi (c, b)) := by
  rw [hl_iff]
  simp only [cl_cons]
  rcases lett3 lo hi a h0 with ⟨x1, e1⟩ | ⟨x1, e1⟩ | ⟨x1, y1, e1⟩ <;> rcases lett3 lo hi b h0 with ⟨x2, e2⟩ | ⟨x2, e2⟩ | ⟨x2, y2, e2⟩ <;> rcases lett3 lo hi c h0 with ⟨x3, e3⟩ | ⟨x3, e3⟩ | ⟨x3, y3, e3⟩ <;> rcases lett3 lo hi d h0 with ⟨x4, e4⟩ | ⟨x4, e4⟩ | ⟨x4, y4, e4⟩ <;> first
    | (exfalso; omega)
    | (rw [decide_eq_true (by omega), e1, e2, e3, e4]; simp only [d2, b1]; cases o with
        | none => simp <;> omega
        | some p => cases p <;> simp <;> omega)
    | (rw [decide_eq_false (by omega), e1, e2, e3, e4]; simp only [d2, b1]; cases o with
        | none => simp
        | some p => cases p <;> simp)
theorem four_down {lo hi a b c d : Int} (h0 : lo < hi) (post : List Int) (o : Option Bool) (h1 : c ≤ a) (h2 : b < c) (h3 : d ≤ b) : cl lo hi o (a :: b :: c :: d :: post) = cl lo hi o (a :: d :: post) + 2 * b1 (hl lo hi (b, c)) := by
  rw [hl_iff]
  simp only [cl_cons]
  rcases lett3 lo hi a h0 with ⟨x1, e1⟩ | ⟨x1, e1⟩ | ⟨x1, y1, e1⟩ <;> rcases lett3 lo hi b h0 with ⟨x2, e2⟩ | ⟨x2, e2⟩ | ⟨x2, y2, e2⟩ <;> rcases lett3 lo hi c h0 with ⟨x3, e3⟩ | ⟨x3, e3⟩ | ⟨x3, y3, e3⟩ <;> rcases lett3 lo hi d h0 with ⟨x4, e4⟩ | ⟨x4, e4⟩ | ⟨x4, y4, e4⟩ <;> first
    | (exfalso; omega)
    | (rw [decide_eq_true (by omega), e1, e2, e3, e4]; simp only [d2, b1]; cases o with
        | none => simp <;> omega
        | some p => cases p <;> simp <;> omega)
    | (rw [decide_eq_false (by omega), e1, e2, e3, e4]; simp only [d2, b1]; cases o with
        | none => simp
        | some p => cases p <;> simp)
theorem cl_step {lo hi : Int} (h0 : lo < hi) {p q : List Int} {c : Int × Int} (h : Step p c q) : ZZ p → ∀ o, cl lo hi o p = cl lo hi o q + 2 * b1 (hl lo hi c) := by
  induction h with
  | @here a b c d post t =>
    intro z o
    rcases (taken_iff z.four).mp t with ⟨x1, x2, x3, x4, x5⟩ | ⟨x1, x2, x3, x4, x5⟩
    · rw [rg_down x2]; exact four_up h0 post o x4 x2 x5
    · rw [rg_up x2]; exact four_down h0 post o x4 x2 x5
  | @there x p q cy s ih =>
    intro z o
    rw [cl_cons, cl_cons]
    cases lett lo hi x with
    | none => exact ih z.tail o
    | some b =>
      have := ih z.tail (some b)
      show d2 o b + cl lo hi (some b) p = d2 o b + cl lo hi (some b) q + _
      omega
theorem cl_run {lo hi : Int} (h0 : lo < hi) {p q : List Int} {cs : List (Int × Int)} (h : Run p cs q) : ZZ p → ∀ o, cl lo hi o p = cl lo hi o q + 2 * nh lo hi cs := by
  induction h with
  | nil p => intro _ o; rfl
  | cons s _ ih =>
    intro z o
    rw [cl_step h0 s z o, ih (ZZ.step s z) o, nh_cons]
    omega
/-! the load and its turning points -/
theorem cl_same {lo hi : Int} (o : Option Bool) (a : Int) (l : List Int) : cl lo hi o (a :: a :: l) = cl lo hi o (a :: l) := by
  simp only [cl_cons]
  cases lett lo hi a with
  | none => rfl
  | some b => simp [d2]
theorem cl_btw {lo hi : Int} (h0 : lo < hi) (o : Option Bool) {b a r : Int} (l : List Int) (h : Btw a b r) : cl lo hi o (b :: a :: r :: l) = cl lo hi o (b :: r :: l) := by
  simp only [cl_cons]
  rcases lett3 lo hi a h0 with ⟨x1, e1⟩ | ⟨x1, e1⟩ | ⟨x1, y1, e1⟩ <;> rcases lett3 lo hi b h0 with ⟨x2, e2⟩ | ⟨x2, e2⟩ | ⟨x2, y2, e2⟩ <;> rcases lett3 lo hi r h0 with ⟨x3, e3⟩ | ⟨x3, e3⟩ | ⟨x3, y3, e3⟩ <;> first
    | (exfalso; omega)
    | (rw [e1, e2, e3]; done)
    | (rw [e1, e2, e3]; cases o with
        | none => simp [d2]
        | some p => cases p <;> simp [d2])
theorem cl_tq {lo hi : Int} (h0 : lo < hi) : ∀ (l : List Int) (o : Option Bool) (b a : Int), cl lo hi o (b :: tq b a l) = cl lo hi o (b :: a :: l)
  | [], _, _, _ => rfl
  | r :: l, o, b, a => by
    simp only [tq]
    by_cases e : a = r
    · rw [if_pos e, cl_tq h0 l o b a, ← e, cl_cons lo hi o b (a :: a :: l), cl_cons lo hi o b (a :: l)]
      cases lett lo hi b with
      | none => exact (cl_same _ _ _).symm
      | some x => exact congrArg _ (cl_same _ _ _).symm
    · rw [if_neg e]
      by_cases bt : Btw a b r
      · rw [if_pos bt, cl_tq h0 l o b r, cl_btw h0 o l bt]
      · rw [if_neg bt, cl_cons lo hi o b (a :: tq a r l), cl_cons lo hi o b (a :: r :: l)]
        cases lett lo hi b with
        | none => exact cl_tq h0 l o a r
        | some x => exact congrArg (d2 o x + ·) (cl_tq h0 l (some x) a r)
theorem cl_ts {lo hi : Int} (h0 : lo < hi) : ∀ (l : List Int) (o : Option Bool) (a : Int), cl lo hi o (ts a l) = cl lo hi o (a :: l)
  | [], _, _ => rfl
  | r :: l, o, a => by
    simp only [ts]
    by_cases e : a = r
    · rw [if_pos e, cl_ts h0 l o a, ← e, cl_same]
    · rw [if_neg e, cl_tq h0 l o a r]
theorem cl_tp {lo hi : Int} (h0 : lo < hi) (ns : List Int) : cl lo hi none (tp ns) = chg ns lo hi := by
  cases ns with
  | nil => rfl
  | cons a l => exact cl_ts h0 l none a
/-! the rest: swings that grow and then shrink -/
def In (u v : Int) (ps : List Int) : Prop := ∀ x ∈ ps, u ≤ x ∧ x ≤ v
/-- each swing within the one before -/
def Con : List Int → Prop
  | x :: y :: z :: r => ((y < x ∧ y < z ∧ z ≤ x) ∨ (x < y ∧ z < y ∧ x ≤ z)) ∧ Con (y :: z :: r)
  | _ => True
theorem Con.inside : ∀ {r : List Int} {x y : Int}, Con (x :: y :: r) → x ≠ y → In (if x < y then x else y) (if x < y then y else x) (x :: y :: r)
  | [], x, y, _, h => by
    intro w hw
    rcases List.mem_cons.mp hw with e | hw
    · subst e; split <;> omega
    · rcases List.mem_cons.mp hw with e | hw
      · subst e; split <;> omega
      · exact absurd hw (List.not_mem_nil)
  | z :: r, x, y, c, h => by
    have ih := Con.inside c.2 (by have := c.1; omega)
    intro w hw
    have c1 := c.1
    rcases List.mem_cons.mp hw with e | hw
    · subst e; split <;> omega
    · have := ih w hw
      by_cases e1 : y < z
      · rw [if_pos e1, if_pos e1] at this
        rw [if_neg (by omega), if_neg (by omega)]
        omega
      · rw [if_neg e1, if_neg e1] at this
        rw [if_pos (by omega), if_pos (by omega)]
        omega
theorem nf_con : ∀ {r : List Int} {x y z : Int}, ZZ (x :: y :: z :: r) → NF (x :: y :: z :: r) → ((y < x ∧ z ≤ x) ∨ (x < y ∧ x ≤ z)) → Con (x :: y :: z :: r)
  | [], x, y, z, zz, _, h => ⟨by have := zz.1; omega, trivial⟩
  | w :: r, x, y, z, zz, n, h => by
    have z1 := zz.1
    have z2 := zz.2.1
    refine ⟨by omega, nf_con zz.2 (fun c q s => n _ _ (.there s)) ?_⟩
    have nt : ¬ Taken x y z w := fun t => n _ _ (.here t)
    rw [taken_iff zz.four] at nt
    omega
theorem one_letter {lo hi : Int} {b : Bool} : ∀ (l : List Int) (o : Option Bool), (o = none ∨ o = some b) → (∀ x ∈ l, lett lo hi x = none ∨ lett lo hi x = some b) → cl lo hi o l = 0
  | [], o, _, _ => cl_nil lo hi o
  | x :: l, o, h1, h2 => by
    have ih := fun o h => one_letter l o h (fun x hx => h2 x (List.mem_cons_of_mem _ hx))
    rw [cl_cons]
    rcases h2 x List.mem_cons_self with e | e
    · rw [e]; exact ih o h1
    · rw [e]
      show d2 o b + cl lo hi (some b) l = 0
      rw [ih _ (.inr rfl)]
      rcases h1 with e | e
      · rw [e]; rfl
      · rw [e]; simp [d2]
theorem con_one {lo hi x y : Int} (h0 : lo < hi) {r : List Int} (h : In (if x < y then x else y) (if x < y then y else x) (x :: y :: r)) (ne : x ≠ y) : cl lo hi none (x :: y :: r) = b1 (hl lo hi (rg x y)) + cl lo hi none (y :: r) := by
  have out : ∀ u v, u < v → In u v (x :: y :: r) → hl lo hi (u, v) = false → cl lo hi none (x :: y :: r) = 0 ∧ cl lo hi none (y :: r) = 0 := by
    intro u v huv hin hn
    rw [hl_iff] at hn
    have hn := of_decide_eq_false hn
    by_cases a : u ≤ lo
    · have hb : v < hi := by omega
      have key : ∀ w ∈ x :: y :: r, lett lo hi w = none ∨ lett lo hi w = some true := fun w hw => by
        have := hin w hw
        rcases lett3 lo hi w h0 with ⟨_, e⟩ | ⟨z, e⟩ | ⟨_, _, e⟩
        · exact .inr e
        · omega
        · exact .inl e
      exact ⟨one_letter _ _ (.inl rfl) key, one_letter _ _ (.inl rfl) fun w hw => key w (List.mem_cons_of_mem _ hw)⟩
    · have key : ∀ w ∈ x :: y :: r, lett lo hi w = none ∨ lett lo hi w = some false := fun w hw => by
        have := hin w hw
        rcases lett3 lo hi w h0 with ⟨z, e⟩ | ⟨z, e⟩ | ⟨_, _, e⟩
        · omega
        · exact .inr e
        · exact .inl e
      exact ⟨one_letter _ _ (.inl rfl) key, one_letter _ _ (.inl rfl) fun w hw => key w (List.mem_cons_of_mem _ hw)⟩
  rcases (show x < y ∨ y < x by omega) with h1 | h1
  · rw [if_pos h1, if_pos h1] at h
    rw [rg_up h1]
    cases e : hl lo hi (x, y) with
    | false => obtain ⟨e1, e2⟩ := out x y h1 h e; rw [e1, e2]; rfl
    | true =>
      rw [hl_iff] at e
      have e := of_decide_eq_true e
      rw [cl_cons lo hi none x, cl_cons lo hi none y, lett_lo e.1, lett_hi h0 e.2]
      show d2 none true + cl lo hi (some true) (y :: r) = b1 true + (d2 none false + cl lo hi (some false) r)
      rw [cl_cons, lett_hi h0 e.2]
      simp [d2, b1]
  · rw [if_neg (by omega), if_neg (by omega)] at h
    rw [rg_down h1]
    cases e : hl lo hi (y, x) with
    | false => obtain ⟨e1, e2⟩ := out y x h1 h e; rw [e1, e2]; rfl
    | true =>
      rw [hl_iff] at e
      have e := of_decide_eq_true e
      rw [cl_cons lo hi none x, cl_cons lo hi none y, lett_lo e.1, lett_hi h0 e.2]
      show d2 none false + cl lo hi (some false) (y :: r) = b1 true + (d2 none true + cl lo hi (some true) r)
      rw [cl_cons, lett_lo e.1]
      simp [d2, b1]
theorem wide_one {lo hi x y z : Int} (h0 : lo < hi) {r : List Int} (h : (y < x ∧ x < z) ∨ (x < y ∧ z < x)) : cl lo hi none (x :: y :: z :: r) = b1 (hl lo hi (rg x y)) + cl lo hi none (y :: z :: r) := by
  rcases h with ⟨h1, h2⟩ | ⟨h1, h2⟩
  · rw [rg_down h1, hl_iff]
    simp only [cl_cons]
    rcases lett3 lo hi x h0 with ⟨x1, e1⟩ | ⟨x1, e1⟩ | ⟨x1, y1, e1⟩ <;> rcases lett3 lo hi y h0 with ⟨x2, e2⟩ | ⟨x2, e2⟩ | ⟨x2, y2, e2⟩ <;> rcases lett3 lo hi z h0 with ⟨x3, e3⟩ | ⟨x3, e3⟩ | ⟨x3, y3, e3⟩ <;> first
      | (exfalso; omega)
      | (rw [decide_eq_true (by omega), e1, e2, e3]; simp [d2, b1]; done)
      | (rw [decide_eq_false (by omega), e1, e2, e3]; simp [d2, b1]; done)
  · rw [rg_up h1, hl_iff]
    simp only [cl_cons]
    rcases lett3 lo hi x h0 with ⟨x1, e1⟩ | ⟨x1, e1⟩ | ⟨x1, y1, e1⟩ <;> rcases lett3 lo hi y h0 with ⟨x2, e2⟩ | ⟨x2, e2⟩ | ⟨x2, y2, e2⟩ <;> rcases lett3 lo hi z h0 with ⟨x3, e3⟩ | ⟨x3, e3⟩ | ⟨x3, y3, e3⟩ <;> first
      | (exfalso; omega)
      | (rw [decide_eq_true (by omega), e1, e2, e3]; simp [d2, b1]; done)
      | (rw [decide_eq_false (by omega), e1, e2, e3]; simp [d2, b1]; done)
theorem nf_nh {lo hi : Int} (h0 : lo < hi) : ∀ (ps : List Int), ZZ ps → NF ps → cl lo hi none ps = nh lo hi (sw ps)
  | [], _, _ => rfl
  | [x], _, _ => by
    rw [cl_cons]
    cases lett lo hi x <;> rfl
  | [x, y], zz, _ => by
    have zz : x ≠ y := zz
    show _ = nh lo hi [rg x y]
    rw [nh_cons, con_one h0 (Con.inside (r := []) (x := x) (y := y) (show Con [x, y] from trivial) zz) zz]
    show _ + cl lo hi none [y] = _ + 0
    rw [cl_cons]
    cases lett lo hi y <;> rfl
  | x :: y :: z :: r, zz, n => by
    have ih := nf_nh h0 (y :: z :: r) zz.2 (fun c q s => n _ _ (.there s))
    show _ = nh lo hi (rg x y :: sw (y :: z :: r))
    rw [nh_cons, ← ih]
    have z1 := zz.1
    by_cases h : (y < x ∧ z ≤ x) ∨ (x < y ∧ x ≤ z)
    · exact con_one h0 (Con.inside (nf_con zz n h) (by omega)) (by omega)
    · exact wide_one h0 (by omega)
/-- the changes of a load are the half-cycles that hold the range -/
theorem chg_count {lo hi : Int} (h0 : lo < hi) {ns rs : List Int} {cs : List (Int × Int)} (h : Run (tp ns) cs rs) (n : NF rs) : chg ns lo hi = 2 * nh lo hi cs + nh lo hi (sw rs) := by
  rw [← cl_tp h0, cl_run h0 h (tp_zz ns), nf_nh h0 rs (h.zz (tp_zz ns)) n]
  omega
/-! just a range: the second difference -/
theorem just_one (lo hi : Int) (r : Int × Int) : b1 (decide (r = (lo, hi))) + b1 (hl (lo - 1) hi r) + b1 (hl lo (hi + 1) r) = b1 (hl lo hi r) + b1 (hl (lo - 1) (hi + 1) r) := by
  obtain ⟨u, v⟩ := r
  simp only [hl_iff]
  have e : decide ((u, v) = (lo, hi)) = decide (u = lo ∧ v = hi) := by simp
  rw [e]
  simp only [b1, decide_eq_true_eq]
  repeat' split
  all_goals omega
theorem just {lo hi : Int} : ∀ rs : List (Int × Int), rs.count (lo, hi) + nh (lo - 1) hi rs + nh lo (hi + 1) rs = nh lo hi rs + nh (lo - 1) (hi + 1) rs
  | [] => rfl
  | r :: rs => by
    have ih := just (lo := lo) (hi := hi) rs
    have h1 := just_one lo hi r
    rw [nh_cons, nh_cons, nh_cons, nh_cons, List.count_cons]
    have e : (if (r == (lo, hi)) = true then 1 else 0) = b1 (decide (r = (lo, hi))) := by
      unfold b1
      by_cases z : r = (lo, hi)
      · simp [z]
      · simp [z]
    rw [e]
    omega
end RC

/-! changes of a load -/
namespace QJ
open PySem PySem.Spec PyProof.Rows L2 KA KM PH
abbrev sCh : Stmt := KA.topS 13
theorem scCh : FnScope ["load", "low", "high", "letters", "reading", "one", "other"] ["load", "low", "high"] (defScope sCh) := ⟨rfl, rfl, rfl, by decide +kernel, rfl, by decide +kernel, by decide +kernel⟩
/-! ### letters -/
def ltr (b : Bool) : V := .str (if b = true then ("L" : Str) else ("H" : Str))
theorem ltr_scal (a b : Bool) : scal (ltr a) (ltr b) = true := by cases a <;> cases b <;> rfl
theorem ltr_eq (a b : Bool) : decide (ltr a = ltr b) = decide (a = b) := by
  cases a <;> cases b <;> first | rfl | decide +kernel
theorem cut1 (xs : List V) : cutV xs (some 1) none = xs.drop 1 := by
  unfold cutV
  rw [show HT.sIx xs.length 0 (some 1) = min 1 xs.length from HT.sIx_nat xs.length 0 1, HT.sIx_none]
  cases xs with
  | nil => rfl
  | cons x r =>
    have : min 1 (x :: r).length = 1 := by simp
    rw [this]
    simp
section
variable {P : Program} {w : World} {K : PySem.W.Frag} {mg : Str → Option Value} {base : Heap}
def spCh (K : PySem.W.Frag) : Sp := fun vs H Q _ => ∃ (a : Addr) (ns : List Int) (lo hi : Int), vs = [.ref a, .int lo, .int hi] ∧ SqL K H a (ns.map V.int) ∧ ns.length ≤ 3000 ∧ ∀ H', Same H H' → Q (.int (chg ns lo hi : Nat)) H'
def spChT (K : PySem.W.Frag) : Sp := fun vs H Q _ => ∃ (a : Addr) (ns : List Int) (lo hi : Int), vs = [.ref a, .int lo, .int hi] ∧ SqT K H a (ns.map V.int) ∧ ns.length ≤ 3000 ∧ ∀ H', Same H H' → Q (.int (chg ns lo hi : Nat)) H'
/-- behind the letters: the pairs that differ -/
theorem ok_ch {f : Addr} {fd : FuncData} {k : Nat} (F : Fun K "changes" "changes" sCh f fd) (ml : mg "len" = none) (mz : mg "zip" = none) : FnOk P w K mg base CX0 (k + 1) f fd ["load", "low", "high"] (spCh K) := by
  refine F.ok scCh (fun vs H Q E h => ?_) (fun cdv A outer s H vs Q E hr h => ?_)
  · obtain ⟨a, ns, lo, hi, rfl, _⟩ := h
    rfl
  · obtain ⟨a, ns, lo, hi, rfl, hS, hlen, q⟩ := h
    refine ⟨_, pss_cons (ps_setLc (i := 3) (own := [("reading", 4)]) (g := gName 4) rfl scCh.nd rfl rfl (sw_true rfl rfl rfl (by decide +kernel)) (pi_list (pv 0))
        (blkOk_by (own := [("reading", 4)]) (N := ["load", "low", "high", "letters", "reading", "one", "other"]) (sc := defScope sCh) (by decide +kernel))
        (fun _ _ _ _ _ => pg_name (i := 4) scCh.nd rfl (Or.inl rfl))
        (fun _ _ _ _ _ => pts_one (PW.pt (pw_or (pt_cmpR op_le (pv 4) (pv 1) (nomark _)) (pw_or1 (pt_cmpR op_ge (pv 4) (pv 2) (nomark _))))))
        (fun _ _ _ _ _ => pe_ifExp (pt_cmpR op_le (pv 4) (pv 1) (nomark _)) pe_str pe_str))
      (pss_one (ps_ret (pe_callB call_len_seq (by rfl) ml PySem.boot_len (pa_cons
        (pe_lc (own := [("one", 5), ("other", 6)]) (g := gTup K 2 (gCons (gName 5) (gCons (gName 6) gNil))) rfl scCh.nd (pi_zip (by rfl) mz (pa_cons (pv 3) (pa_cons (pe_slice sl_list (pv 3) (po_some pe_int) po_none) pa_nil)))
          (blkOk_by (own := [("one", 5), ("other", 6)]) (N := ["load", "low", "high", "letters", "reading", "one", "other"]) (sc := defScope sCh) (by decide +kernel))
          (fun _ _ _ _ _ => pg_tup rfl (pgs_cons (pg_name (i := 5) scCh.nd rfl (Or.inl rfl) (Or.inr rfl)) (pgs_cons (pg_name (i := 6) scCh.nd rfl (Or.inl rfl) (Or.inr rfl)) pgs_nil)))
          (fun _ _ _ _ _ => pts_one (pt_cmpR op_ne (pv 5) (pv 6) (nomark _))) (fun _ _ _ _ _ => pv 5)) pa_nil)))), ?_⟩
    refine ⟨.ref a, rfl, a, rfl, ⟨_, hS⟩, fun D nD => lc_list (K := K) (a := a) (xs := ns.map V.int) (fun i H' => H' = upd H D (.lst ((lets lo hi (ns.take i)).map ltr))) ?_ ?_ ?_ ?_⟩
    · rfl
    · rintro i H' _ rfl
      exact (same_new nD).seq hS
    · rintro i x H' hx rfl
      obtain ⟨r, hr2, rfl⟩ := int_at hx
      have et := lets_take (lo := lo) (hi := hi) hr2
      have hin : i < ns.length := (List.getElem?_eq_some_iff.mp hr2).1
      refine ⟨rfl, .int r, rfl, .int lo, rfl, r, lo, rfl, rfl, _, rfl, ite2 (fun e => ?_) (fun e => ?_)⟩
      · have h1 : r ≤ lo := of_decide_eq_true e
        refine iteT ⟨.int r, rfl, .int lo, rfl, r, lo, rfl, rfl, _, rfl, ite2 (fun _ => ?_) (fun z => absurd e z)⟩
        refine ⟨_, upd_same, ?_, ?_⟩
        · rw [List.length_map]
          have := lets_len lo hi (ns.take i)
          rw [List.length_take] at this
          exact small3000 (by omega)
        · rw [upd_upd, et]
          unfold lett
          rw [if_pos h1]
          dsimp only
          rw [List.map_append]
          rfl
      · have h1 : ¬ r ≤ lo := fun z => e (decide_eq_true z)
        refine ⟨.int r, rfl, .int hi, rfl, r, hi, rfl, rfl, _, rfl, ?_⟩
        by_cases h2 : r ≥ hi
        · rw [decide_eq_true h2]
          refine iteT ⟨.int r, rfl, .int lo, rfl, r, lo, rfl, rfl, _, rfl, ite2 (fun z => absurd z e) (fun _ => ?_)⟩
          refine ⟨_, upd_same, ?_, ?_⟩
          · rw [List.length_map]
            have := lets_len lo hi (ns.take i)
            rw [List.length_take] at this
            exact small3000 (by omega)
          · rw [upd_upd, et]
            unfold lett
            rw [if_neg h1, if_pos h2]
            dsimp only
            rw [List.map_append]
            rfl
        · rw [decide_eq_false h2]
          refine iteF ?_
          rw [et]
          unfold lett
          rw [if_neg h1, if_neg h2]
    · rintro H' rfl
      have e0 : ns.take (ns.map V.int).length = ns := by rw [List.length_map]; exact List.take_length
      rw [e0]
      generalize hls : lets lo hi ns = ls
      have hll : ls.length ≤ 3000 := by have := lets_len lo hi ns; rw [hls] at this; omega
      have s1 : Same H (upd H D (.lst (ls.map ltr))) := same_new nD
      have hD : SqL K (upd H D (.lst (ls.map ltr))) D (ls.map ltr) := SqL.of upd_same
      refine ⟨.ref D, rfl, .ref D, rfl, 1, rfl, D, ls.map ltr, rfl, hD, fun c nc => ?_⟩
      rw [cut1]
      have ncD : c ≠ D := fun e => by rw [e, upd_same] at nc; cases nc
      have s2 : Same H (upd (upd H D (.lst (ls.map ltr))) c (.lst ((ls.map ltr).drop 1))) := s1.trans (same_new nc)
      refine ⟨D, c, ls.map ltr, (ls.map ltr).drop 1, rfl, (same_new nc).seq hD, SqL.of upd_same, fun R nR => ?_⟩
      have nRD : R ≠ D := fun e => by rw [e, upd_ne ncD.symm, upd_same] at nR; cases nR
      have nRc : R ≠ c := fun e => by rw [e, upd_same] at nR; cases nR
      have hH2 : H R = none := s2.free nR
      refine lc_it (walk_zip (K := K) (a := D) (b := c) (xs := ls.map ltr) (ys := (ls.map ltr).drop 1) (n := ls.length - 1) (by rw [List.length_drop, List.length_map]; omega))
        (fun i H' => Same H H' ∧ H' D = some (.lst (ls.map ltr)) ∧ H' c = some (.lst ((ls.map ltr).drop 1)) ∧ ∃ acc : List V, H' R = some (.lst acc) ∧ acc.length ≤ i ∧ acc.length + cnt (ls.drop i) = cnt ls) ?_ ?_ ?_ ?_
      · refine ⟨s2.trans (same_new nR), ?_, ?_, [], upd_same, Nat.le_refl _, ?_⟩
        · rw [upd_ne nRD.symm, upd_ne ncD.symm, upd_same]
        · rw [upd_ne nRc.symm, upd_same]
        · show 0 + cnt ls = cnt ls
          omega
      · rintro i H' _ ⟨_, z1, z2, _⟩
        exact ⟨SqL.of z1, SqL.of z2⟩
      · rintro i x H1 H2 hi1 ⟨sm, z1, z2, acc, z3, z4, z5⟩ ⟨T, u, v, rfl, nT, rfl, g1, g2⟩
        have hi2 : i + 1 < ls.length := by omega
        have hi3 : i < ls.length := by omega
        have g1 : (ls.map ltr)[i]? = some u := g1
        have g2 : ((ls.map ltr).drop 1)[i]? = some v := g2
        have eu : u = ltr ls[i] := by
          rw [List.getElem?_map, List.getElem?_eq_getElem hi3] at g1
          exact (Option.some.inj g1).symm
        have ev : v = ltr ls[i + 1] := by
          rw [List.getElem?_drop, List.getElem?_map, Nat.add_comm 1 i, List.getElem?_eq_getElem hi2] at g2
          exact (Option.some.inj g2).symm
        have nTR : R ≠ T := ne_of_none z3 nT
        have nTD : D ≠ T := ne_of_none z1 nT
        have nTc : c ≠ T := ne_of_none z2 nT
        have sT : Same H1 (upd H1 T (.tup [u, v])) := same_new nT
        have cd := cnt_drop (List.getElem?_eq_getElem hi3) (List.getElem?_eq_getElem hi2)
        refine ⟨T, [u, v], rfl, SqT.of upd_same, rfl, u, [v], rfl, v, [], rfl, ?_⟩
        refine ⟨rfl, rfl, u, rfl, v, rfl, by rw [eu, ev]; exact ltr_scal _ _, _, rfl, ?_⟩
        rw [eu, ev, ltr_eq]
        by_cases hq : ls[i] = ls[i + 1]
        · rw [decide_eq_true hq]
          refine iteF ⟨sm.trans (by rw [← eu, ← ev]; exact sT), ?_, ?_, acc, ?_, by omega, ?_⟩
          · rw [upd_ne nTD]; exact z1
          · rw [upd_ne nTc]; exact z2
          · rw [upd_ne nTR]; exact z3
          · rw [if_pos hq] at cd
            omega
        · rw [decide_eq_false hq]
          have z3' : (upd H1 T (.tup [ltr ls[i], ltr ls[i + 1]])) R = some (.lst acc) := by rw [upd_ne nTR]; exact z3
          refine iteT ⟨ltr ls[i], rfl, acc, z3', small3000 (by omega), ?_, ?_, ?_, acc ++ [ltr ls[i]], upd_same, by rw [List.length_append, List.length_singleton]; omega, ?_⟩
          · exact same_again hH2 (sm.trans (by rw [← eu, ← ev]; exact sT))
          · rw [upd_ne nRD.symm, upd_ne nTD]; exact z1
          · rw [upd_ne nRc.symm, upd_ne nTc]; exact z2
          · rw [if_neg hq] at cd
            rw [List.length_append, List.length_singleton]
            omega
      · rintro H' ⟨sm, z1, z2, acc, z3, z4, z5⟩
        have ce : cnt (ls.drop (ls.length - 1)) = 0 := cnt_end (by omega)
        refine ⟨R, acc, rfl, .inl (SqL.of z3), ?_⟩
        have ea : acc.length = chg ns lo hi := by
          show acc.length = cnt (lets lo hi ns)
          rw [hls]
          omega
        rw [ea]
        exact q H' sm
theorem ok_chT {f : Addr} {fd : FuncData} {k : Nat} (F : Fun K "changes" "changes" sCh f fd) (ml : mg "len" = none) (mz : mg "zip" = none) : FnOk P w K mg base CX0 (k + 1) f fd ["load", "low", "high"] (spChT K) := by
  refine F.ok scCh (fun vs H Q E h => ?_) (fun cdv A outer s H vs Q E hr h => ?_)
  · obtain ⟨a, ns, lo, hi, rfl, _⟩ := h
    rfl
  · obtain ⟨a, ns, lo, hi, rfl, hS, hlen, q⟩ := h
    refine ⟨_, pss_cons (ps_setLc (i := 3) (own := [("reading", 4)]) (g := gName 4) rfl scCh.nd rfl rfl (sw_true rfl rfl rfl (by decide +kernel)) (pi_tup (pv 0))
        (blkOk_by (own := [("reading", 4)]) (N := ["load", "low", "high", "letters", "reading", "one", "other"]) (sc := defScope sCh) (by decide +kernel))
        (fun _ _ _ _ _ => pg_name (i := 4) scCh.nd rfl (Or.inl rfl))
        (fun _ _ _ _ _ => pts_one (PW.pt (pw_or (pt_cmpR op_le (pv 4) (pv 1) (nomark _)) (pw_or1 (pt_cmpR op_ge (pv 4) (pv 2) (nomark _))))))
        (fun _ _ _ _ _ => pe_ifExp (pt_cmpR op_le (pv 4) (pv 1) (nomark _)) pe_str pe_str))
      (pss_one (ps_ret (pe_callB call_len_seq (by rfl) ml PySem.boot_len (pa_cons
        (pe_lc (own := [("one", 5), ("other", 6)]) (g := gTup K 2 (gCons (gName 5) (gCons (gName 6) gNil))) rfl scCh.nd (pi_zip (by rfl) mz (pa_cons (pv 3) (pa_cons (pe_slice sl_list (pv 3) (po_some pe_int) po_none) pa_nil)))
          (blkOk_by (own := [("one", 5), ("other", 6)]) (N := ["load", "low", "high", "letters", "reading", "one", "other"]) (sc := defScope sCh) (by decide +kernel))
          (fun _ _ _ _ _ => pg_tup rfl (pgs_cons (pg_name (i := 5) scCh.nd rfl (Or.inl rfl) (Or.inr rfl)) (pgs_cons (pg_name (i := 6) scCh.nd rfl (Or.inl rfl) (Or.inr rfl)) pgs_nil)))
          (fun _ _ _ _ _ => pts_one (pt_cmpR op_ne (pv 5) (pv 6) (nomark _))) (fun _ _ _ _ _ => pv 5)) pa_nil)))), ?_⟩
    refine ⟨.ref a, rfl, a, rfl, ⟨_, hS⟩, fun D nD => lc_tup (K := K) (a := a) (xs := ns.map V.int) (fun i H' => H' = upd H D (.lst ((lets lo hi (ns.take i)).map ltr))) ?_ ?_ ?_ ?_⟩
    · rfl
    · rintro i H' _ rfl
      exact SqT_same (same_new nD) hS
    · rintro i x H' hx rfl
      obtain ⟨r, hr2, rfl⟩ := int_at hx
      have et := lets_take (lo := lo) (hi := hi) hr2
      have hin : i < ns.length := (List.getElem?_eq_some_iff.mp hr2).1
      refine ⟨rfl, .int r, rfl, .int lo, rfl, r, lo, rfl, rfl, _, rfl, ite2 (fun e => ?_) (fun e => ?_)⟩
      · have h1 : r ≤ lo := of_decide_eq_true e
        refine iteT ⟨.int r, rfl, .int lo, rfl, r, lo, rfl, rfl, _, rfl, ite2 (fun _ => ?_) (fun z => absurd e z)⟩
        refine ⟨_, upd_same, ?_, ?_⟩
        · rw [List.length_map]
          have := lets_len lo hi (ns.take i)
          rw [List.length_take] at this
          exact small3000 (by omega)
        · rw [upd_upd, et]
          unfold lett
          rw [if_pos h1]
          dsimp only
          rw [List.map_append]
          rfl
      · have h1 : ¬ r ≤ lo := fun z => e (decide_eq_true z)
        refine ⟨.int r, rfl, .int hi, rfl, r, hi, rfl, rfl, _, rfl, ?_⟩
        by_cases h2 : r ≥ hi
        · rw [decide_eq_true h2]
          refine iteT ⟨.int r, rfl, .int lo, rfl, r, lo, rfl, rfl, _, rfl, ite2 (fun z => absurd z e) (fun _ => ?_)⟩
          refine ⟨_, upd_same, ?_, ?_⟩
          · rw [List.length_map]
            have := lets_len lo hi (ns.take i)
            rw [List.length_take] at this
            exact small3000 (by omega)
          · rw [upd_upd, et]
            unfold lett
            rw [if_neg h1, if_pos h2]
            dsimp only
            rw [List.map_append]
            rfl
        · rw [decide_eq_false h2]
          refine iteF ?_
          rw [et]
          unfold lett
          rw [if_neg h1, if_neg h2]
    · rintro H' rfl
      have e0 : ns.take (ns.map V.int).length = ns := by rw [List.length_map]; exact List.take_length
      rw [e0]
      generalize hls : lets lo hi ns = ls
      have hll : ls.length ≤ 3000 := by have := lets_len lo hi ns; rw [hls] at this; omega
      have s1 : Same H (upd H D (.lst (ls.map ltr))) := same_new nD
      have hD : SqL K (upd H D (.lst (ls.map ltr))) D (ls.map ltr) := SqL.of upd_same
      refine ⟨.ref D, rfl, .ref D, rfl, 1, rfl, D, ls.map ltr, rfl, hD, fun c nc => ?_⟩
      rw [cut1]
      have ncD : c ≠ D := fun e => by rw [e, upd_same] at nc; cases nc
      have s2 : Same H (upd (upd H D (.lst (ls.map ltr))) c (.lst ((ls.map ltr).drop 1))) := s1.trans (same_new nc)
      refine ⟨D, c, ls.map ltr, (ls.map ltr).drop 1, rfl, (same_new nc).seq hD, SqL.of upd_same, fun R nR => ?_⟩
      have nRD : R ≠ D := fun e => by rw [e, upd_ne ncD.symm, upd_same] at nR; cases nR
      have nRc : R ≠ c := fun e => by rw [e, upd_same] at nR; cases nR
      have hH2 : H R = none := s2.free nR
      refine lc_it (walk_zip (K := K) (a := D) (b := c) (xs := ls.map ltr) (ys := (ls.map ltr).drop 1) (n := ls.length - 1) (by rw [List.length_drop, List.length_map]; omega))
        (fun i H' => Same H H' ∧ H' D = some (.lst (ls.map ltr)) ∧ H' c = some (.lst ((ls.map ltr).drop 1)) ∧ ∃ acc : List V, H' R = some (.lst acc) ∧ acc.length ≤ i ∧ acc.length + cnt (ls.drop i) = cnt ls) ?_ ?_ ?_ ?_
      · refine ⟨s2.trans (same_new nR), ?_, ?_, [], upd_same, Nat.le_refl _, ?_⟩
        · rw [upd_ne nRD.symm, upd_ne ncD.symm, upd_same]
        · rw [upd_ne nRc.symm, upd_same]
        · show 0 + cnt ls = cnt ls
          omega
      · rintro i H' _ ⟨_, z1, z2, _⟩
        exact ⟨SqL.of z1, SqL.of z2⟩
      · rintro i x H1 H2 hi1 ⟨sm, z1, z2, acc, z3, z4, z5⟩ ⟨T, u, v, rfl, nT, rfl, g1, g2⟩
        have hi2 : i + 1 < ls.length := by omega
        have hi3 : i < ls.length := by omega
        have g1 : (ls.map ltr)[i]? = some u := g1
        have g2 : ((ls.map ltr).drop 1)[i]? = some v := g2
        have eu : u = ltr ls[i] := by
          rw [List.getElem?_map, List.getElem?_eq_getElem hi3] at g1
          exact (Option.some.inj g1).symm
        have ev : v = ltr ls[i + 1] := by
          rw [List.getElem?_drop, List.getElem?_map, Nat.add_comm 1 i, List.getElem?_eq_getElem hi2] at g2
          exact (Option.some.inj g2).symm
        have nTR : R ≠ T := ne_of_none z3 nT
        have nTD : D ≠ T := ne_of_none z1 nT
        have nTc : c ≠ T := ne_of_none z2 nT
        have sT : Same H1 (upd H1 T (.tup [u, v])) := same_new nT
        have cd := cnt_drop (List.getElem?_eq_getElem hi3) (List.getElem?_eq_getElem hi2)
        refine ⟨T, [u, v], rfl, SqT.of upd_same, rfl, u, [v], rfl, v, [], rfl, ?_⟩
        refine ⟨rfl, rfl, u, rfl, v, rfl, by rw [eu, ev]; exact ltr_scal _ _, _, rfl, ?_⟩
        rw [eu, ev, ltr_eq]
        by_cases hq : ls[i] = ls[i + 1]
        · rw [decide_eq_true hq]
          refine iteF ⟨sm.trans (by rw [← eu, ← ev]; exact sT), ?_, ?_, acc, ?_, by omega, ?_⟩
          · rw [upd_ne nTD]; exact z1
          · rw [upd_ne nTc]; exact z2
          · rw [upd_ne nTR]; exact z3
          · rw [if_pos hq] at cd
            omega
        · rw [decide_eq_false hq]
          have z3' : (upd H1 T (.tup [ltr ls[i], ltr ls[i + 1]])) R = some (.lst acc) := by rw [upd_ne nTR]; exact z3
          refine iteT ⟨ltr ls[i], rfl, acc, z3', small3000 (by omega), ?_, ?_, ?_, acc ++ [ltr ls[i]], upd_same, by rw [List.length_append, List.length_singleton]; omega, ?_⟩
          · exact same_again hH2 (sm.trans (by rw [← eu, ← ev]; exact sT))
          · rw [upd_ne nRD.symm, upd_ne nTD]; exact z1
          · rw [upd_ne nRc.symm, upd_ne nTc]; exact z2
          · rw [if_neg hq] at cd
            rw [List.length_append, List.length_singleton]
            omega
      · rintro H' ⟨sm, z1, z2, acc, z3, z4, z5⟩
        have ce : cnt (ls.drop (ls.length - 1)) = 0 := cnt_end (by omega)
        refine ⟨R, acc, rfl, .inl (SqL.of z3), ?_⟩
        have ea : acc.length = chg ns lo hi := by
          show acc.length = cnt (lets lo hi ns)
          rw [hls]
          omega
        rw [ea]
        exact q H' sm
end
end QJ

/-! the half-cycles of two loads are the same exactly if their changes are -/
namespace RE
open KM PM RM RN RC
/-- of a load: its half-cycles, sorted -/
structure Hc (ns : List Int) (es : List (Int × Int)) : Prop where
  ex : ∃ cs ds rs, Run (tp ns) cs rs ∧ NF rs ∧ ds.Perm cs ∧ es.Perm (ds ++ ds ++ sw rs)
  srt : es.Pairwise Le
theorem Hc.chg {ns : List Int} {es : List (Int × Int)} (h : Hc ns es) {lo hi : Int} (h0 : lo < hi) : chg ns lo hi = nh lo hi es := by
  obtain ⟨cs, ds, rs, run, nf, p1, p2⟩ := h.ex
  rw [chg_count h0 run nf, nh_perm p2, nh_app, nh_app, nh_perm p1]
  omega
/-- every half-cycle lies within the readings -/
def InR (u v : Int) (r : Int × Int) : Prop := u ≤ r.1 ∧ r.1 < r.2 ∧ r.2 ≤ v
theorem rg_in {u v a b : Int} (ha : u ≤ a ∧ a ≤ v) (hb : u ≤ b ∧ b ≤ v) (ne : a ≠ b) : InR u v (rg a b) := by
  rcases (show a < b ∨ b < a by omega) with h | h
  · rw [rg_up h]; exact ⟨ha.1, h, hb.2⟩
  · rw [rg_down h]; exact ⟨hb.1, h, ha.2⟩
theorem step_in {u v : Int} {p q : List Int} {c : Int × Int} (h : Step p c q) : ZZ p → (∀ x ∈ p, u ≤ x ∧ x ≤ v) → InR u v c ∧ ∀ x ∈ q, u ≤ x ∧ x ≤ v := by
  induction h with
  | @here a b c d post t =>
    intro z hb
    have z1 := z.1
    refine ⟨rg_in (hb b (by simp)) (hb c (by simp)) (by omega), fun x hx => ?_⟩
    rcases List.mem_cons.mp hx with e | hx
    · exact hb x (by simp [e])
    · rcases List.mem_cons.mp hx with e | hx
      · exact hb x (by simp [e])
      · exact hb x (by simp [hx])
  | @there x p q cy s ih =>
    intro z hb
    obtain ⟨h1, h2⟩ := ih z.tail fun y hy => hb y (List.mem_cons_of_mem _ hy)
    refine ⟨h1, fun y hy => ?_⟩
    rcases List.mem_cons.mp hy with e | hy
    · exact hb y (by simp [e])
    · exact h2 y hy
theorem run_in {u v : Int} {p q : List Int} {cs : List (Int × Int)} (h : Run p cs q) : ZZ p → (∀ x ∈ p, u ≤ x ∧ x ≤ v) → (∀ c ∈ cs, InR u v c) ∧ ∀ x ∈ q, u ≤ x ∧ x ≤ v := by
  induction h with
  | nil p => exact fun _ hb => ⟨fun _ z => (List.not_mem_nil z).elim, hb⟩
  | cons s _ ih =>
    intro z hb
    obtain ⟨h1, h2⟩ := step_in s z hb
    obtain ⟨h3, h4⟩ := ih (ZZ.step s z) h2
    refine ⟨fun c hc => ?_, h4⟩
    rcases List.mem_cons.mp hc with e | hc
    · rw [e]; exact h1
    · exact h3 c hc
theorem sw_in {u v : Int} : ∀ {ps : List Int}, ZZ ps → (∀ x ∈ ps, u ≤ x ∧ x ≤ v) → ∀ r ∈ sw ps, InR u v r
  | [], _, _, r, h => by simp [sw] at h
  | [_], _, _, r, h => by simp [sw] at h
  | x :: y :: l, z, hb, r, h => by
    rcases List.mem_cons.mp (show r ∈ rg x y :: sw (y :: l) from h) with e | h
    · rw [e]; exact rg_in (hb x (by simp)) (hb y (by simp)) (zz_cons z)
    · exact sw_in z.tail (fun w hw => hb w (List.mem_cons_of_mem _ hw)) r h
theorem Hc.inr {u v : Int} {ns : List Int} {es : List (Int × Int)} (h : Hc ns es) (hb : ∀ x ∈ ns, u ≤ x ∧ x ≤ v) : ∀ r ∈ es, InR u v r := by
  obtain ⟨cs, ds, rs, run, nf, p1, p2⟩ := h.ex
  obtain ⟨h1, h2⟩ := run_in run (tp_zz ns) fun x hx => hb x (tp_mem hx)
  intro r hr
  rcases List.mem_append.mp (p2.mem_iff.mp hr) with z | z
  · rcases List.mem_append.mp z with z | z
    · exact h1 r (p1.mem_iff.mp z)
    · exact h1 r (p1.mem_iff.mp z)
  · exact sw_in (run.zz (tp_zz ns)) h2 r z
/-- two loads within u..v -/
theorem same_iff {u v : Int} {ns ms : List Int} {es fs : List (Int × Int)} (h : Hc ns es) (g : Hc ms fs) (hb : ∀ x ∈ ns, u ≤ x ∧ x ≤ v) (gb : ∀ x ∈ ms, u ≤ x ∧ x ≤ v) :
    es = fs ↔ ∀ lo hi : Int, u - 1 ≤ lo → lo < hi → hi ≤ v + 1 → KM.chg ns lo hi = KM.chg ms lo hi := by
  constructor
  · intro e lo hi _ h0 _
    rw [h.chg h0, g.chg h0, e]
  · intro e
    refine sorted_same (List.perm_iff_count.mpr fun r => ?_) h.srt g.srt
    obtain ⟨lo, hi⟩ := r
    by_cases z : u ≤ lo ∧ lo < hi ∧ hi ≤ v
    · have j1 := just (lo := lo) (hi := hi) es
      have j2 := just (lo := lo) (hi := hi) fs
      have k : ∀ a b : Int, u - 1 ≤ a → a < b → b ≤ v + 1 → nh a b es = nh a b fs := fun a b h1 h2 h3 => by rw [← h.chg h2, ← g.chg h2, e a b h1 h2 h3]
      have k1 := k lo hi (by omega) (by omega) (by omega)
      have k2 := k (lo - 1) hi (by omega) (by omega) (by omega)
      have k3 := k lo (hi + 1) (by omega) (by omega) (by omega)
      have k4 := k (lo - 1) (hi + 1) (by omega) (by omega) (by omega)
      omega
    · rw [List.count_eq_zero.mpr fun m => z (show u ≤ lo ∧ lo < hi ∧ hi ≤ v from h.inr hb (lo, hi) m), List.count_eq_zero.mpr fun m => z (show u ≤ lo ∧ lo < hi ∧ hi ≤ v from g.inr gb (lo, hi) m)]
end RE

/-! loads turned round, mapped, repeated, thinned: mathematics -/
namespace K9
open KM PM RM RN RC RE
/-! ### turning points of a load turned round -/
theorem tq_same : ∀ (pre : List Int) (p q x : Int) (post : List Int), tq p q (pre ++ x :: x :: post) = tq p q (pre ++ x :: post)
  | [], p, q, x, post => by
    show tq p q (x :: x :: post) = tq p q (x :: post)
    simp only [tq]
    by_cases e : q = x
    · subst e
      simp only [if_true]
    · rw [if_neg e, if_neg e]
      simp only [if_true]
  | y :: pre, p, q, x, post => by
    show tq p q (y :: (pre ++ x :: x :: post)) = tq p q (y :: (pre ++ x :: post))
    simp only [tq, tq_same pre]
theorem tq_btw0 {p b a r : Int} (post : List Int) (h : Btw a b r) : tq p b (a :: r :: post) = tq p b (r :: post) := by
  have h1 : ¬ b = a := by omega
  have h2 : ¬ b = r := by omega
  have h3 : ¬ a = r := by omega
  simp only [tq]
  rw [if_neg h1, if_neg h2]
  by_cases c : Btw b p a
  · rw [if_pos c, if_neg h3, if_pos (show Btw a p r by omega), if_pos (show Btw b p r by omega)]
  · rw [if_neg c, if_neg (show ¬ Btw b p r by omega)]
    rw [if_neg h3, if_pos h]
theorem tq_btw : ∀ (pre : List Int) (p q b a r : Int) (post : List Int), Btw a b r → tq p q (pre ++ b :: a :: r :: post) = tq p q (pre ++ b :: r :: post)
  | [], p, q, b, a, r, post, h => by
    show tq p q (b :: a :: r :: post) = tq p q (b :: r :: post)
    have k : ∀ s, tq s b (a :: r :: post) = tq s b (r :: post) := fun s => tq_btw0 post h
    rw [tq, k, k]
    rw [tq.eq_2 p q b (r :: post)]
    by_cases e : q = b
    · rw [if_pos e, if_pos e]
      subst e
      exact k p
    · rw [if_neg e, if_neg e]
  | y :: pre, p, q, b, a, r, post, h => by
    show tq p q (y :: (pre ++ b :: a :: r :: post)) = tq p q (y :: (pre ++ b :: r :: post))
    simp only [tq, tq_btw pre _ _ b a r post h]
theorem ts_same : ∀ (pre : List Int) (q x : Int) (post : List Int), ts q (pre ++ x :: x :: post) = ts q (pre ++ x :: post)
  | [], q, x, post => by
    show ts q (x :: x :: post) = ts q (x :: post)
    simp only [ts]
    by_cases e : q = x
    · subst e
      simp only [if_true]
    · rw [if_neg e, if_neg e]
      simp only [tq, if_true]
  | y :: pre, q, x, post => by
    show ts q (y :: (pre ++ x :: x :: post)) = ts q (y :: (pre ++ x :: post))
    simp only [ts, ts_same pre, tq_same pre]
theorem ts_btw0 {b a r : Int} (post : List Int) (h : Btw a b r) : ts b (a :: r :: post) = ts b (r :: post) := by
  simp only [ts]
  rw [if_neg (show ¬ b = a by omega), if_neg (show ¬ b = r by omega)]
  simp only [tq]
  rw [if_neg (show ¬ a = r by omega), if_pos h]
theorem ts_btw : ∀ (pre : List Int) (q b a r : Int) (post : List Int), Btw a b r → ts q (pre ++ b :: a :: r :: post) = ts q (pre ++ b :: r :: post)
  | [], q, b, a, r, post, h => by
    show ts q (b :: a :: r :: post) = ts q (b :: r :: post)
    rw [ts, tq_btw0 post h]
    rw [ts.eq_2 q b (r :: post)]
    by_cases e : q = b
    · rw [if_pos e, if_pos e]
      subst e
      exact ts_btw0 post h
    · rw [if_neg e, if_neg e]
  | y :: pre, q, b, a, r, post, h => by
    show ts q (y :: (pre ++ b :: a :: r :: post)) = ts q (y :: (pre ++ b :: r :: post))
    simp only [ts, ts_btw pre _ b a r post h, tq_btw pre _ _ b a r post h]
theorem tp_same (pre : List Int) (x : Int) (post : List Int) : tp (pre ++ x :: x :: post) = tp (pre ++ x :: post) := by
  cases pre with
  | nil =>
    show ts x (x :: post) = ts x post
    simp only [ts, if_true]
  | cons y pre => exact ts_same pre y x post
theorem tp_btw (pre : List Int) {b a r : Int} (post : List Int) (h : Btw a b r) : tp (pre ++ b :: a :: r :: post) = tp (pre ++ b :: r :: post) := by
  cases pre with
  | nil => exact ts_btw0 post h
  | cons y pre => exact ts_btw pre y b a r post h
/-- a reading left out that is no turning point -/
inductive Red : List Int → List Int → Prop
  | nil (l : List Int) : Red l l
  | same (pre : List Int) (x : Int) (post : List Int) {m : List Int} : Red (pre ++ x :: post) m → Red (pre ++ x :: x :: post) m
  | btw (pre : List Int) {b a r : Int} (post : List Int) {m : List Int} : Btw a b r → Red (pre ++ b :: r :: post) m → Red (pre ++ b :: a :: r :: post) m
theorem Red.tp {l m : List Int} (h : Red l m) : tp l = tp m := by
  induction h with
  | nil l => rfl
  | same pre x post _ ih => rw [tp_same, ih]
  | btw pre post hb _ ih => rw [tp_btw pre post hb, ih]
theorem Red.cons {l m : List Int} (h : Red l m) (y : Int) : Red (y :: l) (y :: m) := by
  induction h with
  | nil l => exact .nil _
  | same pre x post _ ih => exact .same (y :: pre) x post ih
  | btw pre post hb _ ih => exact .btw (y :: pre) post hb ih
theorem Red.trans {l m n : List Int} (h : Red l m) (g : Red m n) : Red l n := by
  induction h with
  | nil l => exact g
  | same pre x post _ ih => exact .same pre x post (ih g)
  | btw pre post hb _ ih => exact .btw pre post hb (ih g)
theorem Red.rev {l m : List Int} (h : Red l m) : Red l.reverse m.reverse := by
  induction h with
  | nil l => exact .nil _
  | same pre x post _ ih =>
    have e1 : (pre ++ x :: x :: post).reverse = post.reverse ++ x :: x :: pre.reverse := by simp
    have e2 : (pre ++ x :: post).reverse = post.reverse ++ x :: pre.reverse := by simp
    rw [e1]
    rw [e2] at ih
    exact .same _ x _ ih
  | @btw pre b a r post m hb _ ih =>
    have e1 : (pre ++ b :: a :: r :: post).reverse = post.reverse ++ r :: a :: b :: pre.reverse := by simp
    have e2 : (pre ++ b :: r :: post).reverse = post.reverse ++ r :: b :: pre.reverse := by simp
    rw [e1]
    rw [e2] at ih
    exact .btw _ _ (by omega) ih
theorem red_tq : ∀ (l : List Int) (b a : Int), Red (b :: a :: l) (b :: tq b a l)
  | [], b, a => .nil _
  | r :: l, b, a => by
    simp only [tq]
    by_cases e : a = r
    · rw [if_pos e]
      subst e
      exact .same [b] a l (red_tq l b a)
    · rw [if_neg e]
      by_cases c : Btw a b r
      · rw [if_pos c]
        exact .btw [] l c (red_tq l b r)
      · rw [if_neg c]
        exact (red_tq l a r).cons b
theorem red_ts : ∀ (l : List Int) (a : Int), Red (a :: l) (ts a l)
  | [], a => .nil _
  | r :: l, a => by
    simp only [ts]
    by_cases e : a = r
    · rw [if_pos e]
      subst e
      exact .same [] a l (red_ts l a)
    · rw [if_neg e]
      exact red_tq l a r
theorem red_tp (ns : List Int) : Red ns (tp ns) := by
  cases ns with
  | nil => exact .nil _
  | cons a l => exact red_ts l a
theorem zz_snoc : ∀ {l : List Int} {a b c : Int}, ZZ (l ++ [a, b]) → ((a < b ∧ c < b) ∨ (b < a ∧ b < c)) → ZZ (l ++ [a, b, c])
  | [], a, b, c, _, h => ⟨h, by show b ≠ c; omega⟩
  | [x], a, b, c, z, h => ⟨z.1, h, by show b ≠ c; omega⟩
  | [x, y], a, b, c, z, h => ⟨z.1, z.2.1, h, by show b ≠ c; omega⟩
  | x :: y :: w :: l, a, b, c, z, h => ⟨z.1, zz_snoc (l := y :: w :: l) z.2 h⟩
theorem zz_rev : ∀ {l : List Int}, ZZ l → ZZ l.reverse
  | [], _ => trivial
  | [x], _ => trivial
  | [x, y], z => fun e => z e.symm
  | x :: y :: w :: l, z => by
    have ih := zz_rev (l := y :: w :: l) z.2
    have e : (x :: y :: w :: l).reverse = l.reverse ++ [w, y, x] := by simp
    have e2 : (y :: w :: l).reverse = l.reverse ++ [w, y] := by simp
    rw [e]
    rw [e2] at ih
    exact zz_snoc ih (by have := z.1; omega)
theorem tp_rev (ns : List Int) : tp ns.reverse = (tp ns).reverse := by
  rw [(red_tp ns).rev.tp, zz_tp (zz_rev (tp_zz ns))]
theorem rg_comm (a b : Int) : rg a b = rg b a := by unfold rg; rw [Prod.mk.injEq]; constructor <;> split <;> split <;> omega
theorem taken_rev {a b c d : Int} (h : Taken a b c d) : Taken d c b a := by
  unfold Taken at *
  rw [rg_comm d c, rg_comm c b, rg_comm b a]
  exact ⟨h.2, h.1⟩
theorem step_rev {p q : List Int} {c : Int × Int} (h : Step p c q) : Step p.reverse c q.reverse := by
  induction h with
  | @here a b c d post t =>
    have e1 : (a :: b :: c :: d :: post).reverse = post.reverse ++ [d, c, b, a] := by simp
    have e2 : (a :: d :: post).reverse = post.reverse ++ [d, a] := by simp
    rw [e1, e2, rg_comm b c]
    exact (Step.here (post := []) (taken_rev t)).prefix _
  | @there x p q cy s ih =>
    rw [List.reverse_cons, List.reverse_cons]
    exact ih.suffix [x]
theorem run_rev {p q : List Int} {cs : List (Int × Int)} (h : Run p cs q) : Run p.reverse cs q.reverse := by
  induction h with
  | nil p => exact .nil _
  | cons s _ ih => exact .cons (step_rev s) ih
theorem nf_rev {p : List Int} (h : NF p) : NF p.reverse := fun c q s => by
  have := step_rev s
  rw [List.reverse_reverse] at this
  exact h _ _ this
/-- one count, its cycles sorted -/
structure Cn (ns : List Int) (ds : List (Int × Int)) (rs : List Int) : Prop where
  ex : ∃ cs, Run (tp ns) cs rs ∧ ds.Perm cs
  nf : NF rs
  srt : ds.Pairwise Le
theorem cn_one {ns ms : List Int} {ds es : List (Int × Int)} {rs ss : List Int} (e : tp ns = tp ms) (h : Cn ns ds rs) (g : Cn ms es ss) : ds = es ∧ rs = ss := by
  obtain ⟨cs, r1, p1⟩ := h.ex
  obtain ⟨cs2, r2, p2⟩ := g.ex
  rw [e] at r1
  obtain ⟨e1, e2⟩ := one_count (tp_zz ms) r1 h.nf r2 g.nf
  exact ⟨sorted_same (p1.trans (e2.trans p2.symm)) h.srt g.srt, e1⟩
theorem cn_rev {ns : List Int} {ds es : List (Int × Int)} {rs ss : List Int} (h : Cn ns ds rs) (g : Cn ns.reverse es ss) : es = ds ∧ ss = rs.reverse := by
  obtain ⟨cs, r1, p1⟩ := h.ex
  obtain ⟨cs2, r2, p2⟩ := g.ex
  have r3 := run_rev r1
  rw [← tp_rev] at r3
  obtain ⟨e1, e2⟩ := one_count (tp_zz _) r2 g.nf r3 (nf_rev h.nf)
  exact ⟨sorted_same (p2.trans (e2.trans p1.symm)) g.srt h.srt, e1⟩
/-! ### a load moved, stretched, negated -/
def Str (f : Int → Int) : Prop := (∀ a b, a < b ↔ f a < f b) ∨ (∀ a b, a < b ↔ f b < f a)
theorem str_eq {f : Int → Int} (h : Str f) (a b : Int) : a = b ↔ f a = f b := by
  rcases h with h | h
  · have h1 := h a b
    have h2 := h b a
    omega
  · have h1 := h a b
    have h2 := h b a
    omega
theorem str_btw {f : Int → Int} (h : Str f) (r b a : Int) : Btw r b a ↔ Btw (f r) (f b) (f a) := by
  unfold Btw
  rcases h with h | h
  · rw [h b r, h r a, h a r, h r b]
  · rw [h b r, h r a, h a r, h r b]
    omega
theorem tq_map {f : Int → Int} (h : Str f) : ∀ (l : List Int) (b a : Int), tq (f b) (f a) (l.map f) = (tq b a l).map f
  | [], _, _ => rfl
  | r :: l, b, a => by
    simp only [tq, List.map_cons]
    by_cases e : a = r
    · rw [if_pos e, if_pos ((str_eq h a r).mp e)]
      exact tq_map h l b a
    · rw [if_neg e, if_neg (fun z => e ((str_eq h a r).mpr z))]
      by_cases c : Btw a b r
      · rw [if_pos c, if_pos ((str_btw h a b r).mp c)]
        exact tq_map h l b r
      · rw [if_neg c, if_neg (fun z => c ((str_btw h a b r).mpr z)), List.map_cons, tq_map h l a r]
theorem ts_map {f : Int → Int} (h : Str f) : ∀ (l : List Int) (a : Int), ts (f a) (l.map f) = (ts a l).map f
  | [], _ => rfl
  | r :: l, a => by
    simp only [ts, List.map_cons]
    by_cases e : a = r
    · rw [if_pos e, if_pos ((str_eq h a r).mp e)]
      exact ts_map h l a
    · rw [if_neg e, if_neg (fun z => e ((str_eq h a r).mpr z)), List.map_cons, tq_map h l a r]
theorem tp_map {f : Int → Int} (h : Str f) (ns : List Int) : tp (ns.map f) = (tp ns).map f := by
  cases ns with
  | nil => rfl
  | cons a l => exact ts_map h l a
def mp (f : Int → Int) (r : Int × Int) : Int × Int := rg (f r.1) (f r.2)
theorem rg_map {f : Int → Int} (h : Str f) (a b : Int) : rg (f a) (f b) = mp f (rg a b) := by
  rcases Int.lt_trichotomy a b with z | z | z
  · unfold mp; rw [rg_up z]
  · subst z
    unfold mp rg
    simp
  · unfold mp; rw [rg_down z, rg_comm]
theorem taken_map {f : Int → Int} (h : Str f) {a b c d : Int} (t : Taken a b c d) : Taken (f a) (f b) (f c) (f d) := by
  unfold Taken at *
  rw [rg_map h a b, rg_map h b c, rg_map h c d]
  have key : ∀ u v x y : Int, u ≤ v → x ≤ y → u ≤ x → y ≤ v → ((mp f (u, v)).1 ≤ (mp f (x, y)).1 ∧ (mp f (x, y)).2 ≤ (mp f (u, v)).2) := by
    intro u v x y h1 h2 h3 h4
    have m : ∀ p q, p ≤ q → (f p ≤ f q ∨ f q ≤ f p) := fun p q _ => Int.le_total _ _
    unfold mp rg
    rcases h with h | h
    · have a1 := h v u; have a2 := h y x; have a3 := h x u; have a4 := h v y
      dsimp only
      repeat' split
      all_goals omega
    · have a1 := h v u; have a2 := h y x; have a3 := h x u; have a4 := h v y
      have a5 := h u v; have a6 := h x y; have a7 := h u x; have a8 := h y v
      dsimp only
      repeat' split
      all_goals omega
  have le : ∀ p q : Int, (rg p q).1 ≤ (rg p q).2 := by
    intro p q
    unfold rg
    dsimp only
    split <;> split <;> omega
  exact ⟨key _ _ _ _ (le a b) (le b c) t.1.1 t.1.2, key _ _ _ _ (le c d) (le b c) t.2.1 t.2.2⟩
theorem taken_back {f : Int → Int} (h : Str f) {a b c d : Int} (t : Taken (f a) (f b) (f c) (f d)) : Taken a b c d := by
  have key : ∀ p q x y : Int, (rg (f p) (f q)).1 ≤ (rg (f x) (f y)).1 ∧ (rg (f x) (f y)).2 ≤ (rg (f p) (f q)).2 → (rg p q).1 ≤ (rg x y).1 ∧ (rg x y).2 ≤ (rg p q).2 := by
    intro p q x y
    unfold rg
    rcases h with h | h
    · have a1 := h p q; have a2 := h q p; have a3 := h x y; have a4 := h y x
      have b1 := h p x; have b2 := h x p; have b3 := h p y; have b4 := h y p
      have c1 := h q x; have c2 := h x q; have c3 := h q y; have c4 := h y q
      dsimp only
      repeat' split
      all_goals omega
    · have a1 := h p q; have a2 := h q p; have a3 := h x y; have a4 := h y x
      have b1 := h p x; have b2 := h x p; have b3 := h p y; have b4 := h y p
      have c1 := h q x; have c2 := h x q; have c3 := h q y; have c4 := h y q
      dsimp only
      repeat' split
      all_goals omega
  exact ⟨key _ _ _ _ t.1, key _ _ _ _ t.2⟩
theorem step_map {f : Int → Int} (h : Str f) {p q : List Int} {c : Int × Int} (s : Step p c q) : Step (p.map f) (mp f c) (q.map f) := by
  induction s with
  | @here a b c d post t =>
    rw [← rg_map h]
    exact .here (taken_map h t)
  | there _ ih => exact .there ih
theorem run_map {f : Int → Int} (h : Str f) {p q : List Int} {cs : List (Int × Int)} (r : Run p cs q) : Run (p.map f) (cs.map (mp f)) (q.map f) := by
  induction r with
  | nil p => exact .nil _
  | cons s _ ih => exact .cons (step_map h s) ih
theorem step_back {f : Int → Int} (h : Str f) {p' q : List Int} {c : Int × Int} (s : Step p' c q) : ∀ {p : List Int}, p' = p.map f → ∃ c' q', Step p c' q' := by
  induction s with
  | @here a b c d post t =>
    intro p e
    match p, e with
    | a' :: b' :: c' :: d' :: post', e =>
      simp only [List.map_cons, List.cons.injEq] at e
      obtain ⟨e1, e2, e3, e4, _⟩ := e
      subst e1 e2 e3 e4
      exact ⟨_, _, .here (taken_back h t)⟩
    | [], e => simp at e
    | [_], e => simp at e
    | [_, _], e => simp at e
    | [_, _, _], e => simp at e
  | @there x p1 q1 cy s ih =>
    intro p e
    match p, e with
    | x' :: p', e =>
      rw [List.map_cons] at e
      obtain ⟨c', q', s'⟩ := ih (List.cons.inj e).2
      exact ⟨c', _, .there s'⟩
    | [], e => simp at e
theorem nf_map {f : Int → Int} (h : Str f) {p : List Int} (n : NF p) : NF (p.map f) := fun c q s => by
  obtain ⟨c', q', s'⟩ := step_back h s rfl
  exact n _ _ s'
theorem cn_map {f : Int → Int} (h : Str f) {ns : List Int} {ds es fs : List (Int × Int)} {rs ss : List Int} (g : Cn ns ds rs) (k : Cn (ns.map f) es ss) (p : fs.Perm (ds.map (mp f))) (srt : fs.Pairwise Le) : es = fs ∧ ss = rs.map f := by
  obtain ⟨cs, r1, p1⟩ := g.ex
  obtain ⟨cs2, r2, p2⟩ := k.ex
  have r3 := run_map h r1
  rw [← tp_map h] at r3
  obtain ⟨e1, e2⟩ := one_count (tp_zz _) r2 k.nf r3 (nf_map h g.nf)
  exact ⟨sorted_same (p2.trans (e2.trans ((p1.symm.map _).trans p.symm))) k.srt srt, e1⟩
theorem str_aff {s t : Int} (h : s ≠ 0) : Str fun x => x * s + t := by
  rcases (show 0 < s ∨ s < 0 by omega) with z | z
  · refine .inl fun a b => ?_
    have := Int.mul_lt_mul_right (a := s) (b := a) (c := b) z
    dsimp only
    omega
  · refine .inr fun a b => ?_
    have := Int.mul_lt_mul_right (a := -s) (b := a) (c := b) (by omega)
    rw [Int.mul_neg, Int.mul_neg] at this
    dsimp only
    omega
/-! ### readings repeated -/
theorem tp_rep : ∀ (m : Nat) (pre : List Int) (x : Int), tp (pre ++ List.replicate (m + 1) x) = tp (pre ++ [x])
  | 0, pre, x => rfl
  | m + 1, pre, x => by
    have := tp_same pre x (List.replicate m x)
    rw [show pre ++ List.replicate (m + 1 + 1) x = pre ++ x :: x :: List.replicate m x from rfl, this]
    exact tp_rep m pre x
theorem red_app {l m : List Int} (n : List Int) (h : Red l m) : Red (l ++ n) (m ++ n) := by
  induction h with
  | nil l => exact .nil _
  | same pre x post _ ih =>
    rw [List.append_assoc] at ih ⊢
    exact .same pre x _ ih
  | btw pre post hb _ ih =>
    rw [List.append_assoc] at ih ⊢
    exact .btw pre _ hb ih
/-- what the beginning is, is of no matter if its turning points are the same -/
theorem tp_pre {l m : List Int} (h : tp l = tp m) (n : List Int) : tp (l ++ n) = tp (m ++ n) := by
  rw [(red_app n (red_tp l)).tp, (red_app n (red_tp m)).tp, h]
theorem tp_twice {l m : List Int} (h : tp l = tp m) (k : Nat) (x : Int) : tp (l ++ List.replicate (k + 1) x) = tp (m ++ [x]) := by
  rw [tp_rep, tp_pre h]
/-! ### an upper point lowered -/
theorem cl_sub {lo hi : Int} {l m : List Int} (h : l.Sublist m) (o : Option Bool) : cl lo hi o l ≤ cl lo hi o m := by
  unfold cl
  have h2 : (lets lo hi l).Sublist (lets lo hi m) := h.filterMap _
  cases o with
  | none => exact cnt_mono h2
  | some b => exact cf_mono h2 b
/-- v lies between x and n -/
def Mid (x v n : Int) : Prop := (x ≤ v ∧ v ≤ n) ∨ (n ≤ v ∧ v ≤ x)
theorem mid_let {lo hi x v n : Int} {b : Bool} (h0 : lo < hi) (h : Mid x v n) (e1 : lett lo hi v = some b) (e2 : lett lo hi x ≠ some b) : lett lo hi n = some b := by
  unfold Mid at h
  rcases lett3 lo hi v h0 with ⟨z, e⟩ | ⟨z, e⟩ | ⟨_, _, e⟩ <;> rw [e] at e1 <;> cases e1
  · rcases lett3 lo hi x h0 with ⟨y, e⟩ | ⟨y, e⟩ | ⟨y, y2, e⟩
    · exact absurd e e2
    · exact lett_lo (by omega)
    · exact lett_lo (by omega)
  · rcases lett3 lo hi x h0 with ⟨y, e⟩ | ⟨y, e⟩ | ⟨y, y2, e⟩
    · exact lett_hi h0 (by omega)
    · exact absurd e e2
    · exact lett_hi h0 (by omega)
theorem cl_put {lo hi x v : Int} (h0 : lo < hi) (r : List Int) (hr : ∀ c, r.head? = some c → Mid x v c) (o : Option Bool) (ho : ∀ b, lett lo hi v = some b → lett lo hi x ≠ some b → o = none ∨ o = some b) : cl lo hi o (v :: r) ≤ cl lo hi o (x :: r) := by
  by_cases e : lett lo hi v = lett lo hi x
  · rw [cl_cons, cl_cons, e]
    exact Nat.le_refl _
  · cases ev : lett lo hi v with
    | none =>
      rw [cl_cons, ev]
      exact cl_sub (List.sublist_cons_self _ _) o
    | some b =>
      have ex : lett lo hi x ≠ some b := fun z => e (ev.trans z.symm)
      have d0 : d2 o b = 0 := by
        rcases ho b ev ex with z | z
        · rw [z]; rfl
        · rw [z]; simp [d2]
      rw [cl_cons, ev]
      show d2 o b + cl lo hi (some b) r ≤ _
      rw [d0, Nat.zero_add]
      cases r with
      | nil => rw [cl_nil]; exact Nat.zero_le _
      | cons c r =>
        have ec := mid_let h0 (hr c rfl) ev ex
        have k : cl lo hi o (c :: r) ≤ cl lo hi o (x :: c :: r) := cl_sub (List.sublist_cons_self _ _) o
        refine Nat.le_trans ?_ k
        rw [cl_cons, cl_cons, ec]
        show d2 (some b) b + _ ≤ d2 o b + _
        rw [d0]
        simp [d2]
theorem cl_put_at {lo hi x v : Int} (h0 : lo < hi) (r : List Int) (hr : ∀ c, r.head? = some c → Mid x v c) : ∀ (pre : List Int) (o : Option Bool), (∀ a, pre.getLast? = some a → Mid x v a) → (pre = [] → ∀ b, lett lo hi v = some b → lett lo hi x ≠ some b → o = none ∨ o = some b) → cl lo hi o (pre ++ v :: r) ≤ cl lo hi o (pre ++ x :: r)
  | [], o, _, ho => cl_put h0 r hr o (ho rfl)
  | p :: pre, o, hp, _ => by
    have key : ∀ o', (pre = [] → ∀ b, lett lo hi v = some b → lett lo hi x ≠ some b → o' = none ∨ o' = some b) → cl lo hi o' (pre ++ v :: r) ≤ cl lo hi o' (pre ++ x :: r) := fun o' h' =>
      cl_put_at h0 r hr pre o' (fun a ha => hp a (by
        cases pre with
        | nil => cases ha
        | cons q pre => rw [List.getLast?_cons_cons]; exact ha)) h'
    show cl lo hi o (p :: (pre ++ v :: r)) ≤ cl lo hi o (p :: (pre ++ x :: r))
    rw [cl_cons, cl_cons]
    cases e : lett lo hi p with
    | none =>
      refine key o fun e0 b h1 h2 => ?_
      subst e0
      have := mid_let h0 (hp p rfl) h1 h2
      rw [e] at this
      cases this
    | some b' =>
      refine Nat.add_le_add_left (key _ fun e0 b h1 h2 => .inr ?_) _
      subst e0
      have := mid_let h0 (hp p rfl) h1 h2
      rw [e] at this
      exact this
theorem chg_put_at {lo hi x v : Int} (h0 : lo < hi) {pre r : List Int} (hp : ∀ a, pre.getLast? = some a → Mid x v a) (hr : ∀ c, r.head? = some c → Mid x v c) : chg (pre ++ v :: r) lo hi ≤ chg (pre ++ x :: r) lo hi :=
  cl_put_at h0 r hr pre none hp fun _ _ _ _ => .inl rfl
theorem chg_tp {lo hi : Int} (h0 : lo < hi) (ns : List Int) : chg (tp ns) lo hi = chg ns lo hi := cl_tp h0 ns
theorem zz_three : ∀ {ps : List Int} {j : Nat} {a x c : Int}, ZZ ps → ps[j]? = some a → ps[j + 1]? = some x → ps[j + 2]? = some c → (a < x ∧ c < x) ∨ (x < a ∧ x < c)
  | p :: q :: r :: l, 0, a, x, c, z, h1, h2, h3 => by
    have e1 : p = a := Option.some.inj h1
    have e2 : q = x := Option.some.inj h2
    have e3 : r = c := Option.some.inj h3
    subst e1 e2 e3
    have := z.1
    omega
  | p :: l, j + 1, a, x, c, z, h1, h2, h3 => zz_three (ps := l) (j := j) z.tail h1 h2 h3
  | [], _, _, _, _, _, h, _, _ => by simp at h
  | [_], 0, _, _, _, _, _, h, _ => by simp at h
  | [_, _], 0, _, _, _, _, _, _, h => by simp at h
theorem zz_two : ∀ {ps : List Int} {j : Nat} {a x : Int}, ZZ ps → ps[j]? = some a → ps[j + 1]? = some x → a ≠ x
  | p :: q :: l, 0, a, x, z, h1, h2 => by
    have e1 : p = a := Option.some.inj h1
    have e2 : q = x := Option.some.inj h2
    subst e1 e2
    exact zz_cons z
  | p :: l, j + 1, a, x, z, h1, h2 => zz_two (ps := l) (j := j) z.tail h1 h2
  | [], _, _, _, _, h, _ => by simp at h
  | [_], 0, _, _, _, _, h => by simp at h
/-- near is a neighbour of the point at j, the nearer one -/
def Near (ps : List Int) (j : Nat) (x near : Int) : Prop :=
  (∀ a, 0 < j → ps[j - 1]? = some a → (near - x).natAbs ≤ (a - x).natAbs) ∧ (∀ c, ps[j + 1]? = some c → (near - x).natAbs ≤ (c - x).natAbs) ∧ ((0 < j ∧ ps[j - 1]? = some near) ∨ ps[j + 1]? = some near)
theorem near_mid {ps : List Int} {j : Nat} {x near v : Int} (zz : ZZ ps) (hx : ps[j]? = some x) (hn : Near ps j x near) (hv : Mid x v near) : (∀ a, 0 < j → ps[j - 1]? = some a → Mid x v a) ∧ (∀ c, ps[j + 1]? = some c → Mid x v c) := by
  obtain ⟨n1, n2, n3⟩ := hn
  unfold Mid at *
  refine ⟨fun a hj ha => ?_, fun c hc => ?_⟩
  · have d := n1 a hj ha
    rcases n3 with ⟨_, e⟩ | e
    · rw [ha] at e
      cases e
      exact hv
    · obtain ⟨i, rfl⟩ : ∃ i, j = i + 1 := ⟨j - 1, by omega⟩
      have := zz_three zz ha hx e
      omega
  · have d := n2 c hc
    rcases n3 with ⟨hj, e⟩ | e
    · obtain ⟨i, rfl⟩ : ∃ i, j = i + 1 := ⟨j - 1, by omega⟩
      have := zz_three zz e hx hc
      omega
    · rw [hc] at e
      cases e
      exact hv
theorem lowered {lo hi : Int} (h0 : lo < hi) {ns : List Int} {j : Nat} {x near v : Int} (hx : (tp ns)[j]? = some x) (hn : Near (tp ns) j x near) (hv : Mid x v near) : chg ((tp ns).set j v) lo hi ≤ chg ns lo hi := by
  rw [← chg_tp h0 ns]
  generalize hp : tp ns = ps at *
  have zz : ZZ ps := hp ▸ tp_zz ns
  obtain ⟨m1, m2⟩ := near_mid zz hx hn hv
  obtain ⟨hj, ex⟩ := List.getElem?_eq_some_iff.mp hx
  have e1 : ps.set j v = ps.take j ++ v :: ps.drop (j + 1) := by rw [List.set_eq_take_append_cons_drop, if_pos hj]
  have e2 : ps.take j ++ x :: ps.drop (j + 1) = ps := by
    rw [← ex, ← List.drop_eq_getElem_cons hj, List.take_append_drop]
  rw [e1]
  refine Nat.le_trans (chg_put_at h0 (x := x) (v := v) (fun a ha => ?_) (fun c hc => ?_)) (Nat.le_of_eq (by rw [e2]))
  · rw [List.getLast?_eq_getElem?, List.length_take, Nat.min_eq_left (by omega)] at ha
    by_cases z : 0 < j
    · rw [List.getElem?_take] at ha
      rw [if_pos (by omega)] at ha
      exact m1 a z ha
    · have : j = 0 := by omega
      subst this
      simp at ha
  · rw [List.head?_drop] at hc
    exact m2 c hc
theorem sort_two {ms : List Int} {u v : Int} (p : ms.Perm [u, v]) (s : ms.Pairwise (· ≤ ·)) : ms = [(rg u v).1, (rg u v).2] := by
  have hl := p.length_eq
  match ms, hl with
  | [a, b], _ =>
    have h1 := (p.mem_iff (a := a)).mp (by simp)
    have h2 := (p.mem_iff (a := b)).mp (by simp)
    have h3 := (p.mem_iff (a := u)).mpr (by simp)
    have h4 := (p.mem_iff (a := v)).mpr (by simp)
    simp only [List.mem_cons, List.not_mem_nil, or_false] at h1 h2 h3 h4
    have h5 : a ≤ b := by simpa using s
    unfold rg
    dsimp only
    have e1 : a = if v < u then v else u := by split <;> omega
    have e2 : b = if v > u then v else u := by split <;> omega
    rw [← e1, ← e2]
end K9

/-! loads joined -/
namespace RJ
open PM RM RN RS K9
theorem tp_app : ∀ (b a : List Int), tp (a ++ b) = b.foldl push (tp a)
  | [], a => by rw [List.append_nil]; rfl
  | r :: b, a => by
    rw [List.foldl_cons, ← tp_push, ← tp_app b (a ++ [r])]
    simp
theorem tp_tpl (a b : List Int) : tp (tp a ++ b) = tp (a ++ b) := by rw [tp_app, tp_app, zz_tp (tp_zz a)]
theorem tp_tpr (a b : List Int) : tp (a ++ tp b) = tp (a ++ b) := by
  rw [← List.reverse_inj, ← tp_rev, ← tp_rev, List.reverse_append, List.reverse_append, ← tp_rev, tp_tpl]
theorem run_fold : ∀ (b : List Int) {p q : List Int} {cs : List (Int × Int)}, Run p cs q → ZZ p → Run (b.foldl push p) cs (b.foldl push q)
  | [], _, _, _, h, _ => h
  | r :: b, _, _, _, h, z => run_fold b (run_push h z r) (zz_push r z)
theorem run_l {a ra : List Int} {ca : List (Int × Int)} (h : Run (tp a) ca ra) (b : List Int) : Run (tp (a ++ b)) ca (tp (ra ++ b)) := by
  have z := h.zz (tp_zz a)
  have := run_fold b h (tp_zz a)
  rw [tp_app, tp_app, zz_tp z]
  exact this
theorem run_r {b rb : List Int} {cb : List (Int × Int)} (h : Run (tp b) cb rb) (a : List Int) : Run (tp (a ++ b)) cb (tp (a ++ rb)) := by
  have h1 := run_rev h
  rw [← tp_rev] at h1
  have h2 := run_rev (run_l h1 a.reverse)
  rw [← tp_rev, ← tp_rev] at h2
  simpa using h2
theorem joined {a b ra rb : List Int} {ca cb : List (Int × Int)} (h : Run (tp a) ca ra) (g : Run (tp b) cb rb) : Run (tp (a ++ b)) (ca ++ cb) (tp (ra ++ rb)) :=
  Run.append (run_l h b) (run_r g ra)
/-- a load with its count -/
abbrev Tri := List Int × List (Int × Int) × List Int
def lds (L : List Tri) : List Int := (L.map (·.1)).flatten
def cys (L : List Tri) : List (Int × Int) := (L.map (·.2.1)).flatten
def rss (L : List Tri) : List Int := (L.map (·.2.2)).flatten
theorem joinedN : ∀ (L : List Tri), (∀ t ∈ L, ∃ cs, cs.Perm t.2.1 ∧ Run (tp t.1) cs t.2.2) → ∃ cs, cs.Perm (cys L) ∧ Run (tp (lds L)) cs (tp (rss L))
  | [], _ => ⟨[], .nil, .nil _⟩
  | t :: L, h => by
    obtain ⟨c1, p1, r1⟩ := h t List.mem_cons_self
    obtain ⟨c2, p2, r2⟩ := joinedN L fun x hx => h x (List.mem_cons_of_mem _ hx)
    refine ⟨c1 ++ c2, p1.append p2, ?_⟩
    have := joined r1 r2
    rw [tp_tpr] at this
    exact this
end RJ

/-! a static method called by its class: C.m(..) -/
namespace SM
open PySem PySem.Spec PyProof.Rows L2
/-- the class has a static method m, the def g -/
structure SMet (K : PySem.W.Frag) (C : Addr) (mc : Value) (m : Str) (g : Addr) : Prop where
  at_ : ∃ p rest, PySem.W.findCls K (.ref C) mc m = some (.get (.builtin "staticmethod.__get__") (.ref p) .none (.ref C)) ∧ PySem.W.recIn K p "staticmethod" = some (.ref g :: rest)
  kp : PySem.W.keepIn K (.ref g) = true
section
variable {X : Cx} {CX : CXT} {k : Nat} {C g : Addr} {mc : Value} {sp : Sp} {E : XK} {o e : Expr} {es : List Expr} {m : Str} {pos apos : Pos} {ta : TE} {t : TA} {pl : Sem Bool}
theorem type_of_reads {K : PySem.W.Frag} (h : PySem.W.readsIn K C mc = true) : PySem.W.typeIn K (.ref C) = some mc := by
  unfold PySem.W.readsIn at h
  simp only [Bool.and_eq_true, beq_iff_eq] at h
  exact h.1.1.1.2
theorem getmeth_sm {pins : List (Addr × Obj)} {σ : L2.St} {H : Hp} {s : Shared} {A : Around} {E : Value → Shared → Prop} {Q : Value × List Value → Shared → Prop} (I : Inv X pins σ H s) (r : ClX.CRead X.K C mc) (c : SMet X.K C mc m g)
    (h : ∀ s', Inv X pins σ H s' → Q (.ref g, []) s') : wpAny (model X.prog X.w) A (getMethod (.ref C) m pl) Q E s := by
  obtain ⟨p, rest, a1, a2⟩ := c.at_
  obtain ⟨mm, hF⟩ := I.fr
  unfold getMethod
  refine wpAny_bind ((PySem.W.looks_specialIn I.kIn r.ga).here ?_)
  have e0 : (Manifest.canonical "type.__getattribute__" != "object.__getattribute__") = true := by decide +kernel
  simp only [e0, if_true]
  refine wpAny_bind (PySem.W.cls_sm hF I.ok.mod.kin (type_of_reads r.rd) r.rd a1 a2 rfl ?_)
  exact wpAny_pure (h _ (I.tok _))
def tSMeth (C : Addr) (sp : Sp) (E : XK) (ta : TE) (t : TA) : TE := fun σ H Q => ta σ H fun x H1 => x = V.ref C ∧ t σ H1 fun vs H2 => sp vs H2 Q E
theorem pe_smeth (ho : PE X o ta) (r : ClX.CRead X.K C mc) (c : SMet X.K C mc m g) (F : FnR X.prog X.w X.K X.mg X.base CX k g sp) (hr : Room k X.A) (hx : Passes CX X E) (ha : PA X (e :: es) t)
    (he : starEach (e :: es) X.env = (false, eval e X.env) :: starEach es X.env := by rfl) (hpl : (backTo pos (starEach es X.env)).any (·.1) = false := by rfl)
    (hev : eval ((o.Attribute m apos).Call (e :: es) [] pos) X.env = (do
      let ov ← eval o X.env
      standAt apos.atName
      let (f, first) ← holding [ov] (getMethod ov m pl)
      callWith pos f first (backTo pos (starEach (e :: es) X.env)) (backToKw pos (keywordEach [] X.env))) := by rfl) :
    PE X (.Call (.Attribute o m apos) (e :: es) [] pos) (tSMeth C sp E ta t) := by
  refine ⟨fun pins s σ H Q I h => ?_⟩
  rw [hev]
  refine wpAny_bind (wpAny_mono (ho.run pins s σ H _ I h) (fun u s1 hu => ?_) fun _ _ z => z)
  obtain ⟨x, H1, I1, rx, rfl, h1⟩ := hu
  cases rx
  refine wpAny_bind (wpAny_standAt ?_)
  refine wpAny_bind (wpAny_holding (getmeth_sm I1 r c fun s2 I2 => ?_))
  refine PySem.W.callWith_K (h₀ := X.base) I2.ok.mod.kin c.kp (thn (ha.run pos pins s2 σ H1 _ I2 h1) fun us s3 ⟨vs, H3, I3, rv, q⟩ => ⟨I3.kIn, ?_⟩) he hpl
  refine wpAny_call (codeAny_mono (F X.A X.stack s3 H3 us vs Q E hr I3.env0 rv q) fun r s' hq => ?_)
  cases r with
  | error e => exact hx pins σ H3 s3 e s' I3 hq
  | ok fl =>
    cases fl with
    | ret u => exact I3.after hq
    | next => exact False.elim hq
    | brk => exact False.elim hq
    | cont => exact False.elim hq
theorem pe_smeth0 (ho : PE X o ta) (r : ClX.CRead X.K C mc) (c : SMet X.K C mc m g) (F : FnR X.prog X.w X.K X.mg X.base CX k g sp) (hr : Room k X.A) (hx : Passes CX X E)
    (hev : eval ((o.Attribute m apos).Call [] [] pos) X.env = (do
      let ov ← eval o X.env
      standAt apos.atName
      let (f, first) ← holding [ov] (getMethod ov m pl)
      callWith pos f first (backTo pos (starEach [] X.env)) (backToKw pos (keywordEach [] X.env))) := by rfl) :
    PE X (.Call (.Attribute o m apos) [] [] pos) (tSMeth C sp E ta tNil) := by
  refine ⟨fun pins s σ H Q I h => ?_⟩
  rw [hev]
  refine wpAny_bind (wpAny_mono (ho.run pins s σ H _ I h) (fun u s1 hu => ?_) fun _ _ z => z)
  obtain ⟨x, H1, I1, rx, rfl, h1⟩ := hu
  cases rx
  refine wpAny_bind (wpAny_standAt ?_)
  refine wpAny_bind (wpAny_holding (getmeth_sm I1 r c fun s2 I2 => ?_))
  refine PySem.W.callWith_K0 I2.kIn c.kp ?_
  refine wpAny_call (codeAny_mono (F X.A X.stack s2 H1 [] [] Q E hr I2.env0 .nil h1) fun r s' hq => ?_)
  cases r with
  | error e => exact hx pins σ H1 s2 e s' I2 hq
  | ok fl =>
    cases fl with
    | ret u => exact I2.after hq
    | next => exact False.elim hq
    | brk => exact False.elim hq
    | cont => exact False.elim hq
end
end SM

/-! Count.joined -/
namespace UJN
open PySem PySem.Spec PyProof.Rows L2 KA PH PM PA PB PC RM RN RS QE QF QG QH RJ
abbrev sJN : Stmt := inClass sClass 2
theorem scJN : FnScope ["counts", "cycles", "rest", "closed", "count", "point", "cycle"] ["counts"] (defScope sJN) := ⟨rfl, rfl, rfl, by decide +kernel, rfl, by decide +kernel, by decide +kernel⟩
theorem lc_any {J : It} {n : Nat} {G : Hp → Prop} {Y : Nat → Hp → V → Hp → Prop} (w : Walk J n G Y) {B : V → Hp → (Hp → Prop) → Prop} {H0 : Hp} {Qd : Hp → Prop} (Pv : Nat → Hp → Prop) (p0 : Pv 0 H0) (pg : ∀ i H, i ≤ n → Pv i H → G H)
    (step : ∀ i x H H', i < n → Pv i H → Y i H x H' → B x H' (Pv (i + 1))) (fin : ∀ H, Pv n H → Qd H) :
    ∃ W : Nat → Nat → Hp → Prop, (∃ m, W 0 m H0) ∧ ∀ i m H, W i m H → (J.stop i H ∧ Qd H) ∨ (J.go i H ∧ ∃ Nx : Hp → Prop, (∀ H', Nx H' → ∃ m', m' < m ∧ W (i + 1) m' H') ∧ ∀ x H', J.yld i H x H' → B x H' Nx) := by
  refine ⟨fun i m H => i ≤ n ∧ m = n - i ∧ Pv i H, ⟨n, Nat.zero_le _, rfl, p0⟩, ?_⟩
  rintro i m H ⟨hi, rfl, hp⟩
  rcases Nat.lt_or_ge i n with h | h
  · refine .inr ⟨w.goes i H h (pg i H hi hp), Pv (i + 1), fun H' hn => ⟨n - (i + 1), by omega, by omega, rfl, hn⟩, fun x H' hy => step i x H H' h hp (w.yields i H x H' h (pg i H hi hp) hy)⟩
  · have e : i = n := by omega
    subst e
    exact .inl ⟨w.stops H (pg i H hi hp), fin H hp⟩
/-- counts stand -/
def CntsAt (H : Hp) (C : Addr) : List V → List (List (Int × Int) × List Int) → Prop
  | [], [] => True
  | x :: xs, t :: ts => (∃ a, x = .ref a ∧ CountAt H C a t.1 t.2) ∧ CntsAt H C xs ts
  | _, _ => False
theorem CntsAt.same {C : Addr} {H H' : Hp} (s : Same H H') : ∀ {xs : List V} {ts : List (List (Int × Int) × List Int)}, CntsAt H C xs ts → CntsAt H' C xs ts
  | [], [], _ => trivial
  | _ :: _, _ :: _, ⟨⟨a, e, h⟩, r⟩ => ⟨⟨a, e, h.same s⟩, r.same s⟩
  | [], _ :: _, h => h.elim
  | _ :: _, [], h => h.elim
theorem CntsAt.length {C : Addr} {H : Hp} : ∀ {xs : List V} {ts : List (List (Int × Int) × List Int)}, CntsAt H C xs ts → xs.length = ts.length
  | [], [], _ => rfl
  | _ :: _, _ :: _, ⟨_, r⟩ => congrArg (· + 1) r.length
  | [], _ :: _, h => h.elim
  | _ :: _, [], h => h.elim
theorem CntsAt.get {C : Addr} {H : Hp} : ∀ {xs : List V} {ts : List (List (Int × Int) × List Int)}, CntsAt H C xs ts → ∀ {i : Nat} {x : V}, xs[i]? = some x → ∃ a t, x = .ref a ∧ ts[i]? = some t ∧ CountAt H C a t.1 t.2
  | x :: xs, t :: ts, ⟨⟨a, e, h⟩, r⟩, 0, y, hy => ⟨a, t, by rw [← e]; exact (Option.some.inj hy).symm, rfl, h⟩
  | x :: xs, t :: ts, ⟨_, r⟩, i + 1, y, hy => CntsAt.get r (i := i) hy
  | [], [], _, _, _, hy => by cases hy
  | [], _ :: _, h, _, _, _ => h.elim
  | _ :: _, [], h, _, _, _ => h.elim
def fr (ts : List (List (Int × Int) × List Int)) : List Int := (ts.map (·.2)).flatten
def fc (ts : List (List (Int × Int) × List Int)) : List (Int × Int) := (ts.map (·.1)).flatten
theorem fr_take {ts : List (List (Int × Int) × List Int)} {i : Nat} {t : List (Int × Int) × List Int} (h : ts[i]? = some t) : fr (ts.take (i + 1)) = fr (ts.take i) ++ t.2 := by
  unfold fr; rw [List.take_add_one, h]; simp
theorem fc_take {ts : List (List (Int × Int) × List Int)} {i : Nat} {t : List (Int × Int) × List Int} (h : ts[i]? = some t) : fc (ts.take (i + 1)) = fc (ts.take i) ++ t.1 := by
  unfold fc; rw [List.take_add_one, h]; simp
theorem flat_len {α β : Type} (f : α → List β) (ts : List α) (i : Nat) : ((ts.take i).map f).flatten.length ≤ ((ts.map f).flatten).length := by
  have : (ts.map f).flatten = ((ts.take i).map f).flatten ++ ((ts.drop i).map f).flatten := by
    rw [← List.flatten_append, ← List.map_append, List.take_append_drop]
  rw [this, List.length_append]
  omega
theorem pairs_in {H : Hp} {xs : List V} {rs : List (Int × Int)} (h : PairsAt H xs rs) {i : Nat} {x : V} (hx : xs[i]? = some x) : ∃ p r, x = .ref p ∧ rs[i]? = some r ∧ H p = some (.tup [.int r.1, .int r.2]) := by
  induction xs generalizing rs i with
  | nil => cases hx
  | cons y xs ih =>
    cases rs with
    | nil => exact h.elim
    | cons r rs =>
      obtain ⟨⟨p, e, hp⟩, h2⟩ := h
      cases i with
      | zero => exact ⟨p, r, by rw [← e]; exact (Option.some.inj hx).symm, rfl, hp⟩
      | succ i => exact ih h2 hx
theorem pairs_at1 {H : Hp} {q : Addr} {r : Int × Int} (h : H q = some (.tup [.int r.1, .int r.2])) : PairsAt H [.ref q] [r] := ⟨⟨q, rfl, h⟩, trivial⟩
section
variable {P : Program} {w : World} {K : PySem.W.Frag} {mg : Str → Option Value} {base : Heap} {C : Addr}
/-- the body, its counts in a tuple -/
def spJB (C : Addr) : Sp := fun vs H Q _ => ∃ (p : Addr) (xs : List V) (ts : List (List (Int × Int) × List Int)), vs = [.ref p] ∧ H p = some (.tup xs) ∧ CntsAt H C xs ts ∧ (fr ts).length ≤ 2400 ∧ (fc ts).length ≤ 1500 ∧
  ∀ H' x ds rs cs, Same H H' → H x = none → CountAt H' C x ds rs → Run (tp (fr ts)) cs rs → NF rs → ds.Perm (fc ts ++ cs) → ds.Pairwise Le → Q (.ref x) H'
def spJN (C : Addr) : Sp := fun vs H Q _ => ∃ (ts : List (List (Int × Int) × List Int)), CntsAt H C vs ts ∧ vs.length ≤ 100 ∧ (fr ts).length ≤ 2400 ∧ (fc ts).length ≤ 1500 ∧
  ∀ H' x ds rs cs, Same H H' → H x = none → CountAt H' C x ds rs → Run (tp (fr ts)) cs rs → NF rs → ds.Perm (fc ts ++ cs) → ds.Pairwise Le → Q (.ref x) H'
theorem ok_JN {pC pR f fI fO fC fR : Addr} {fd dI dO dC dR : FuncData} {k : Nat} (F : Fun K "joined" "Count.joined" sJN f fd) (T : Cnt K C) (M : Mk K C fI) (gC : mg "Count" = some (.ref C))
    (GI : FnOk P w K mg base CX0 (k + 2) fI dI ["self", "cycles", "rest"] (spInit K C)) (bI : Binds K dI ["self", "cycles", "rest"] [])
    (GO : FnOk P w K mg base CX0 (k + 3) fO dO ["load"] (spCo K)) (gO : mg "_counted" = some (.ref fO)) (kO : PySem.W.keepIn K (.ref fO) = true) (bO : Binds K dO ["load"] [])
    (prC : PropOf K C "cycles" pC fC) (GC : FnOk P w K mg base CX0 (k + 2) fC dC ["self"] (spPC C)) (bC : Binds K dC ["self"] [])
    (prR : PropOf K C "rest" pR fR) (GR : FnOk P w K mg base CX0 (k + 2) fR dR ["self"] (spPR C)) (bR : Binds K dR ["self"] []) :
    FnR P w K mg base CX0 (k + 4) f (spJN C) := by
  obtain ⟨oc, od, kV, doc, pm, an, cdv, ct, osl, e1, lk, hcd⟩ := F.ex
  subst e1
  have star := StX.fn_star (CX := CX0) (P := P) (w := w) (mg := mg) (base := base) (k := k + 3) (N := ["counts", "cycles", "rest", "closed", "count", "point", "cycle"]) (ps := []) (pv := "counts") (sp := spJB C) lk hcd scJN StX.cxUp_none
    (fun us rest hl => by
      have : us = [] := List.length_eq_zero_iff.mp hl
      subst this
      cases rest <;> rfl)
    (fun A outer s H vs Q E hr h => ?_)
  · intro A outer s H us vs Q E hr e0 rv h
    obtain ⟨ts, ca, lv, l1, l2, q⟩ := h
    refine star A outer s H us vs Q E hr e0 rv ⟨[], vs, rfl, rfl, Nat.le_trans lv (by decide), fun p np => ?_⟩
    have sp := same_new (o := .tup vs) np
    refine ⟨p, vs, ts, rfl, upd_same, ca.same sp, l1, l2, fun H' x ds rs cs sm nx => ?_⟩
    exact q H' x ds rs cs (sp.trans sm) (sp.free nx)
  · obtain ⟨p, xs, ts, rfl, hp, ca, l1, l2, hq⟩ := h
    refine ⟨_, pss_cons (ps_asg (pe_call GO hr (by rfl) gO kO bO .nil pass0 (pa_cons (pe_lc2 (own := [("count", 4), ("point", 5)]) (vs1 := [5]) (g := gName 4) (g1 := gName 5) (wi1 := iTup K (tProp C (spPR C) [] E0 (tVar 4))) (te := tVar 5) rfl scJN.nd (pi_tup (pv 0))
          (blkOk_by (own := [("count", 4), ("point", 5)]) (N := ["counts", "cycles", "rest", "closed", "count", "point", "cycle"]) (sc := defScope sJN) (by decide +kernel)) (by decide)
          (fun _ _ _ _ _ => pg_name (i := 4) scJN.nd rfl (Or.inl rfl) (Or.inr rfl)) (fun _ _ _ _ _ => pts_nil)
          (fun _ _ _ _ _ => pi_tup (pe_prop (pv 4) T.cl prR GR hr bR .nil pass0 (by rfl)))
          (fun _ _ _ _ _ => pg_name (i := 5) scJN.nd rfl (Or.inl rfl) (Or.inr rfl)) (fun _ _ _ _ _ => pts_nil) (fun _ _ _ _ _ => pv 5)) pa_nil))
          (pg_tup rfl (pgs_cons (pg_name (i := 1) scJN.nd rfl (.inl rfl)) (pgs_cons (pg_name (i := 2) scJN.nd rfl (.inl rfl)) pgs_nil))))
      (pss_cons (ps_setLc2 (i := 3) (own := [("count", 4), ("cycle", 6)]) (vs1 := [6]) (g := gName 4) (g1 := gName 6) (wi1 := iTup K (tProp C (spPC C) [] E0 (tVar 4))) (te := tVar 6) rfl scJN.nd rfl rfl (sw_true rfl rfl rfl (by decide +kernel))
          (pi_tup (pv 0))
          (blkOk_by (own := [("count", 4), ("cycle", 6)]) (N := ["counts", "cycles", "rest", "closed", "count", "point", "cycle"]) (sc := defScope sJN) (by decide +kernel)) (by decide)
          (fun _ _ _ _ _ => pg_name (i := 4) scJN.nd rfl (Or.inl rfl) (Or.inr rfl)) (fun _ _ _ _ _ => pts_nil)
          (fun _ _ _ _ _ => pi_tup (pe_prop (pv 4) T.cl prC GC hr bC .nil pass0 (by rfl)))
          (fun _ _ _ _ _ => pg_name (i := 6) scJN.nd rfl (Or.inl rfl) (Or.inr rfl)) (fun _ _ _ _ _ => pts_nil) (fun _ _ _ _ _ => pv 6))
      (pss_one (ps_ret (pe_make M GI hr (by rfl) gC bI .nil pass0 (pa_cons (pe_op op_cat (pv 3) (pv 1)) (pa_cons (pv 2) pa_nil)))))), ?_⟩
    have l1' : ∀ i, (fr (ts.take i)).length ≤ 2400 := fun i => Nat.le_trans (flat_len _ ts i) l1
    have l2' : ∀ i, (fc (ts.take i)).length ≤ 1500 := fun i => Nat.le_trans (flat_len _ ts i) l2
    have ctl := ca.length
    refine ⟨.ref p, rfl, p, rfl, ⟨_, SqT.of hp⟩, fun D nD => ?_⟩
    refine lc_any (walk_tup (K := K) (a := p) (xs := xs)) (fun i Hx => Same H Hx ∧ Hx D = some (.lst ((fr (ts.take i)).map V.int))) ⟨same_new nD, upd_same⟩ (fun i Hx _ g => SqT.of (g.1 _ _ hp)) ?_ ?_
    · rintro i x H9 Hx hi ⟨sm, eD⟩ ⟨rfl, hx⟩
      obtain ⟨a, t, rfl, ht, cat⟩ := ca.get hx
      have cat1 := cat.same sm
      obtain ⟨dx, fs, hxx⟩ : ∃ dx fs, Hx a = some (.ins C dx fs) := by
        obtain ⟨dx, t1, t2, ys, h1, _⟩ := cat1
        exact ⟨dx, _, h1⟩
      refine ⟨rfl, ?_⟩
      refine iteT (B := True) ?_
      refine ⟨.ref a, rfl, a, dx, fs, rfl, hxx, a, t.1, t.2, rfl, cat1, fun t2 et2 => ⟨t2, rfl, ⟨_, SqT.of et2⟩, ?_⟩⟩
      have lt := l1' (i + 1)
      rw [fr_take ht, List.length_append] at lt
      refine lc_any (walk_tup (K := K) (a := t2) (xs := t.2.map V.int)) (fun j Hy => Same H Hy ∧ Hy t2 = some (.tup (t.2.map V.int)) ∧ Hy D = some (.lst ((fr (ts.take i) ++ t.2.take j).map V.int))) ⟨sm, et2, by rw [List.take_zero, List.append_nil]; exact eD⟩ (fun j Hy _ g => SqT.of g.2.1) ?_ ?_
      · rintro j y H9 Hy hj ⟨sm2, e2, eD2⟩ ⟨rfl, hy⟩
        obtain ⟨r, hr2, rfl⟩ := int_at hy
        have n2D : t2 ≠ D := ne_of e2 eD2 (by intro z; cases z)
        refine ⟨rfl, ?_⟩
        refine iteT (B := True) ?_
        refine ⟨.int r, rfl, _, eD2, ?_, same_again nD sm2, by rw [upd_ne n2D]; exact e2, ?_⟩
        · rw [List.length_map, List.length_append, List.length_take]
          exact small3000 (by omega)
        · rw [upd_same, List.take_add_one, hr2]
          simp
      · rintro Hy ⟨sm2, e2, eD2⟩
        rw [List.length_map, List.take_length, ← fr_take ht] at eD2
        exact ⟨sm2, eD2⟩
    rintro H1 ⟨sm1, eD⟩
    rw [ctl, List.take_length] at eD
    refine ⟨D, fr ts, rfl, .inl (SqL.of eD), by omega, fun H2 q c r ys cs rs s2 nq eq ec pa er run nf => ?_⟩
    refine ⟨q, _, rfl, SqT.of eq, rfl, .ref c, [.ref r], rfl, .ref r, [], rfl, rfl, ?_⟩
    have sm2 := sm1.trans s2
    have hp2 := sm2 _ _ hp
    refine ⟨.ref p, rfl, p, rfl, ⟨_, SqT.of hp2⟩, fun E1 nE => ?_⟩
    refine lc_any (walk_tup (K := K) (a := p) (xs := xs)) (fun i Hx => Same H2 Hx ∧ ∃ zs, Hx E1 = some (.lst zs) ∧ PairsAt Hx zs (fc (ts.take i))) ⟨same_new nE, [], upd_same, trivial⟩ (fun i Hx _ g => SqT.of (g.1 _ _ hp2)) ?_ ?_
    · rintro i x H9 Hx hi ⟨sm, zs, eD, pz⟩ ⟨rfl, hx⟩
      obtain ⟨a, t, rfl, ht, cat⟩ := ca.get hx
      have cat1 := cat.same (sm2.trans sm)
      obtain ⟨dx, fs, hxx⟩ : ∃ dx fs, Hx a = some (.ins C dx fs) := by
        obtain ⟨dx, t1, t2, ys, h1, _⟩ := cat1
        exact ⟨dx, _, h1⟩
      refine ⟨rfl, ?_⟩
      refine iteT (B := True) ?_
      refine ⟨.ref a, rfl, a, dx, fs, rfl, hxx, a, t.1, t.2, rfl, cat1, fun t1 ws et1 pw => ⟨t1, rfl, ⟨_, SqT.of et1⟩, ?_⟩⟩
      have lt := l2' (i + 1)
      rw [fc_take ht, List.length_append] at lt
      have lw := pw.length
      have lz := pz.length
      refine lc_any (walk_tup (K := K) (a := t1) (xs := ws)) (fun j Hy => Same H2 Hy ∧ Hy t1 = some (.tup ws) ∧ PairsAt Hy ws t.1 ∧ ∃ zs, Hy E1 = some (.lst zs) ∧ PairsAt Hy zs (fc (ts.take i) ++ t.1.take j)) ⟨sm, et1, pw, zs, eD, by rw [List.take_zero, List.append_nil]; exact pz⟩ (fun j Hy _ g => SqT.of g.2.1) ?_ ?_
      · rintro j y H9 Hy hj ⟨sm3, e3, pw3, zs3, eD3, pz3⟩ ⟨rfl, hy⟩
        obtain ⟨q1, r1, rfl, hr1, hq1⟩ := pairs_in pw3 hy
        have n2D : t1 ≠ E1 := ne_of e3 eD3 (by intro z; cases z)
        refine ⟨rfl, ?_⟩
        refine iteT (B := True) ?_
        refine ⟨.ref q1, rfl, _, eD3, ?_, same_again nE sm3, by rw [upd_ne n2D]; exact e3, pairs_upd eD3 pw3, _, upd_same, ?_⟩
        · rw [pz3.length, List.length_append, List.length_take]
          exact small3000 (by omega)
        · rw [List.take_add_one, hr1, ← List.append_assoc]
          refine PairsAt.append (pairs_upd eD3 pz3) (pairs_upd eD3 (pairs_at1 hq1))
      · rintro Hy ⟨sm3, e3, pw3, zs3, eD3, pz3⟩
        rw [lw, List.take_length, ← fc_take ht] at pz3
        exact ⟨sm3, zs3, eD3, pz3⟩
    rintro H3 ⟨sm3, zs, eE, pz⟩
    rw [ctl, List.take_length] at pz
    have lz := pz.length
    have lr := run.len
    have ltp := tp_len (fr ts)
    have ly := pa.length
    have hl : zs.length + ys.length ≤ sizeLine := Nat.le_of_lt (small3000 (by omega))
    have eC3 := sm3 _ _ ec
    have eR3 := sm3 _ _ er
    have pa3 := pa.same sm3
    refine ⟨.ref E1, rfl, .ref c, rfl, E1, c, _, _, rfl, rfl, eE, eC3, hl, fun l nl => ?_⟩
    have s4 := same_new (o := .lst (zs ++ ys)) nl
    refine ⟨.ref r, rfl, fun x dx nx ndx ne => ?_⟩
    have s5 : Same (upd H3 l (.lst (zs ++ ys))) (upd (upd (upd H3 l (.lst (zs ++ ys))) dx (.own x)) x (.ins C dx [])) := (same_new ndx).trans (same_new (by rw [upd_ne ne.symm]; exact nx))
    have s45 := s4.trans s5
    refine ⟨x, l, r, dx, zs ++ ys, fc ts ++ cs, rs, rfl, upd_same, s5 _ _ upd_same, (PairsAt.append pz pa3).same s45, s45 _ _ eR3, fun H' ds keep ca' perm srt => ⟨rfl, ?_⟩⟩
    have s6 : Same (upd H3 l (.lst (zs ++ ys))) H' := fun b o e => keep b o (ne_of_none e nx) (s5 _ _ e)
    have s7 := sm2.trans (sm3.trans s4)
    exact hq H' x ds rs cs (s7.trans s6) (s7.free nx) ca' run nf perm srt
end
end UJN

/-! ever narrower swings; to and fro -/
namespace RK
open PM RM RN RS RJ
open K9 (Cn cn_one)
theorem nf_short {p : List Int} (h : p.length ≤ 3) : NF p := by
  intro c q s
  have h1 := s.len
  have h2 := step_two s
  omega
theorem nf_end2 {p : List Int} {b c x : Int} (h : NF (p ++ [b, c])) (n : ∀ a, ¬ Taken a b c x) : NF (p ++ [b, c] ++ [x]) := by
  refine nf_push h fun pre a b' c' e => ?_
  have e1 : p ++ [b, c] ++ [x] = p ++ ([b, c] ++ [x]) := by simp
  have e2 : pre ++ [a, b', c', x] = (pre ++ [a]) ++ ([b', c'] ++ [x]) := by simp
  rw [e1, e2] at e
  obtain ⟨_, e4⟩ := List.append_inj' e rfl
  have e5 : b = b' ∧ c = c' := by simpa using e4
  obtain ⟨rfl, rfl⟩ := e5
  exact n a
theorem cn_push {ld : List Int} {ds : List (Int × Int)} {rs : List Int} {r : Int} (h : Cn ld ds rs) (e : push rs r = rs ++ [r]) (nf : NF (rs ++ [r])) : Cn (ld ++ [r]) ds (rs ++ [r]) := by
  obtain ⟨c0, r0, p0⟩ := h.ex
  refine ⟨⟨c0, ?_, p0⟩, nf, h.srt⟩
  rw [tp_push, ← e]
  exact run_push r0 (tp_zz ld) r
def nar (m : Int) : Nat → List Int
  | 0 => []
  | j + 1 => nar m j ++ [m - j, -(m - j)]
theorem nar_len (m : Int) : ∀ j, (nar m j).length = 2 * j
  | 0 => rfl
  | j + 1 => by
    show (nar m j ++ [m - j, -(m - j)]).length = _
    rw [List.length_append, nar_len m j]
    show 2 * j + 2 = _
    omega
theorem cn_nil : Cn [] [] [] := ⟨⟨[], .nil _, .nil⟩, nf_short (Nat.zero_le _), .nil⟩
theorem cn_nar (m : Int) : ∀ j : Nat, (j : Int) ≤ m → Cn (nar m j) [] (nar m j)
  | 0, _ => cn_nil
  | j + 1, hj => by
    have ih := cn_nar m j (by omega)
    have one : Cn (nar m j ++ [m - j]) [] (nar m j ++ [m - j]) := by
      cases j with
      | zero => exact cn_push ih rfl (nf_short (by show 1 ≤ 3; omega))
      | succ j =>
        have ee : nar m (j + 1) = nar m j ++ [m - j, -(m - j)] := rfl
        refine cn_push ih ?_ ?_
        · rw [ee, push_two, if_neg (by omega)]
          simp
        · have := ih.nf
          rw [ee] at this ⊢
          refine nf_end2 this fun a t => ?_
          have h2 := t.2.2
          have : rg (m - ↑j) (-(m - ↑j)) = (-(m - ↑j), m - ↑j) := rg_down (by omega)
          rw [this] at h2
          have h3 : rg (-(m - ↑j)) (m - ↑(j + 1)) = (-(m - ↑j), m - ↑(j + 1)) := rg_up (by omega)
          rw [h3] at h2
          dsimp only at h2
          omega
    have two : Cn ((nar m j ++ [m - j]) ++ [-(m - j)]) [] ((nar m j ++ [m - j]) ++ [-(m - j)]) := by
      cases j with
      | zero =>
        refine cn_push one ?_ (nf_short (by show 2 ≤ 3; omega))
        show push [m - ((0 : Nat) : Int)] (-(m - ((0 : Nat) : Int))) = _
        simp only [push]
        rw [if_neg (by omega)]
        rfl
      | succ j =>
        have ee : nar m (j + 1) ++ [m - ↑(j + 1)] = (nar m j ++ [m - j]) ++ [-(m - j), m - ↑(j + 1)] := by
          show (nar m j ++ [m - j, -(m - j)]) ++ [m - ↑(j + 1)] = _
          simp
        refine cn_push one ?_ ?_
        · rw [ee, push_two, if_neg (by omega)]
          simp
        · have := one.nf
          rw [ee] at this ⊢
          refine nf_end2 this fun a t => ?_
          have h2 := t.2.1
          have h1 : rg (-(m - ↑j)) (m - ↑(j + 1)) = (-(m - ↑j), m - ↑(j + 1)) := rg_up (by omega)
          have h3 : rg (m - ↑(j + 1)) (-(m - ↑(j + 1))) = (-(m - ↑(j + 1)), m - ↑(j + 1)) := rg_down (by omega)
          rw [h1, h3] at h2
          dsimp only at h2
          omega
    have e : nar m (j + 1) = (nar m j ++ [m - j]) ++ [-(m - j)] := by
      show nar m j ++ [m - j, -(m - j)] = _
      simp
    rw [e]
    exact two
/-- the ranges of the swings, in order -/
def due (m : Int) (j : Nat) : List (Int × Int) := (List.range j).map fun (i : Nat) => (0 - (m - (i : Int)), m - (i : Int))
theorem due_succ (m : Int) (j : Nat) : due m (j + 1) = due m j ++ [(0 - (m - (j : Int)), m - (j : Int))] := by
  unfold due; rw [List.range_succ, List.map_append]; rfl
/-- one reading closes all but the first -/
theorem run_nar (m x : Int) (hx : m - 1 ≤ x) : ∀ j : Nat, (j : Int) + 1 ≤ m → ∃ cs, cs.Perm ((due m (j + 1)).drop 1) ∧ Run (nar m (j + 1) ++ [x]) cs (nar m 1 ++ [x])
  | 0, _ => ⟨[], .nil, .nil _⟩
  | j + 1, hj => by
    obtain ⟨cs, p, run⟩ := run_nar m x hx j (by omega)
    refine ⟨(0 - (m - ((j + 1 : Nat) : Int)), m - ((j + 1 : Nat) : Int)) :: cs, ?_, ?_⟩
    · rw [due_succ m (j + 1), List.drop_append_of_le_length (by unfold due; rw [List.length_map, List.length_range]; omega)]
      exact (List.Perm.cons _ p).trans (List.perm_append_comm (l₁ := [_]))
    · refine .cons ?_ run
      have e1 : nar m (j + 1 + 1) ++ [x] = (nar m j ++ [m - j]) ++ (-(m - j)) :: (m - ((j + 1 : Nat) : Int)) :: (-(m - ((j + 1 : Nat) : Int))) :: x :: [] := by
        show ((nar m j ++ [m - j, -(m - j)]) ++ [m - ((j + 1 : Nat) : Int), -(m - ((j + 1 : Nat) : Int))]) ++ [x] = _
        simp
      have e2 : nar m (j + 1) ++ [x] = (nar m j ++ [m - j]) ++ (-(m - j)) :: x :: [] := by
        show (nar m j ++ [m - j, -(m - j)]) ++ [x] = _
        simp
      have e3 : rg (m - ((j + 1 : Nat) : Int)) (-(m - ((j + 1 : Nat) : Int))) = (0 - (m - ((j + 1 : Nat) : Int)), m - ((j + 1 : Nat) : Int)) := by
        rw [rg_down (by omega), Int.zero_sub]
      rw [e1, e2, ← e3]
      refine (Step.here ?_).prefix _
      have h1 : rg (-(m - ↑j)) (m - ↑(j + 1)) = (-(m - ↑j), m - ↑(j + 1)) := rg_up (by omega)
      have h3 : rg (m - ↑(j + 1)) (-(m - ↑(j + 1))) = (-(m - ↑(j + 1)), m - ↑(j + 1)) := rg_down (by omega)
      have h4 : rg (-(m - ((j + 1 : Nat) : Int))) x = (-(m - ((j + 1 : Nat) : Int)), x) := rg_up (by omega)
      unfold Taken
      rw [h1, h3, h4]
      dsimp only
      omega
theorem due_srt (m : Int) (j : Nat) : ((due m j).drop 1).Pairwise Le := by
  have : (due m j).Pairwise Le := by
    unfold due
    rw [List.pairwise_map]
    refine List.Pairwise.imp ?_ (List.pairwise_lt_range (n := j))
    intro a b h
    simp only [Le]
    omega
  exact this.sublist (List.drop_sublist 1 _)
/-- the whole narrowing load, and one reading more -/
theorem push_nar (m : Nat) (x : Int) (h : 1 ≤ m) (hx : 0 ≤ x) : push (nar m m) x = nar m m ++ [x] := by
  obtain ⟨j, rfl⟩ : ∃ j, m = j + 1 := ⟨m - 1, by omega⟩
  show push (nar _ j ++ [((j + 1 : Nat) : Int) - j, -(((j + 1 : Nat) : Int) - j)]) x = _
  rw [push_two, if_neg (by omega)]
  show _ = (nar _ j ++ [((j + 1 : Nat) : Int) - j, -(((j + 1 : Nat) : Int) - j)]) ++ [x]
  simp
theorem nf_nar0 (m : Nat) (h : 1 ≤ m) : NF (nar m m ++ [0]) := by
  have := (cn_nar m m (Int.le_refl _)).nf
  obtain ⟨j, rfl⟩ : ∃ j, m = j + 1 := ⟨m - 1, by omega⟩
  have ee : nar ((j + 1 : Nat) : Int) (j + 1) = nar ((j + 1 : Nat) : Int) j ++ [((j + 1 : Nat) : Int) - j, -(((j + 1 : Nat) : Int) - j)] := rfl
  rw [ee] at this ⊢
  refine nf_end2 this fun a t => ?_
  have h2 := t.2.2
  have h1 : rg (((j + 1 : Nat) : Int) - j) (-(((j + 1 : Nat) : Int) - j)) = (-(((j + 1 : Nat) : Int) - j), ((j + 1 : Nat) : Int) - j) := rg_down (by omega)
  have h3 : rg (-(((j + 1 : Nat) : Int) - j)) 0 = (-(((j + 1 : Nat) : Int) - j), 0) := rg_up (by omega)
  rw [h1, h3] at h2
  dsimp only at h2
  omega
theorem run_nf {p q : List Int} {cs : List (Int × Int)} (h : Run p cs q) (n : NF p) : cs = [] ∧ q = p := by
  cases h with
  | nil _ => exact ⟨rfl, rfl⟩
  | cons s _ => exact absurd s (n _ _)
/-- closing all -/
theorem close_nar (m : Nat) (x : Int) (h : 1 ≤ m) (hx : (m : Int) - 1 ≤ x) {cs es : List (Int × Int)} {rs : List Int} (run : Run (push (nar m m) x) cs rs) (nf : NF rs) (p : es.Perm cs) (srt : es.Pairwise Le) : es = (due m m).drop 1 ∧ rs = [(m : Int), -m, x] := by
  obtain ⟨j, rfl⟩ : ∃ j, m = j + 1 := ⟨m - 1, by omega⟩
  obtain ⟨c0, p0, r0⟩ := run_nar ((j + 1 : Nat) : Int) x hx j (by omega)
  rw [push_nar (j + 1) x (by omega) (by omega)] at run
  have zz : ZZ (nar ((j + 1 : Nat) : Int) (j + 1) ++ [x]) := by
    have := zz_push x (by
      obtain ⟨c, r, _⟩ := (cn_nar ((j + 1 : Nat) : Int) (j + 1) (Int.le_refl _)).ex
      exact r.zz (tp_zz _))
    rw [push_nar (j + 1) x (by omega) (by omega)] at this
    exact this
  obtain ⟨e1, e2⟩ := one_count zz run nf r0 (nf_short (by show 3 ≤ 3; omega))
  refine ⟨sorted_same ((p.trans e2).trans p0) srt (due_srt _ _), ?_⟩
  rw [e1]
  show [((j + 1 : Nat) : Int) - ((0 : Nat) : Int), -(((j + 1 : Nat) : Int) - ((0 : Nat) : Int))] ++ [x] = _
  simp
/-! to and fro -/
def fro (w : Int) : Nat → List Int
  | 0 => []
  | i + 1 => fro w i ++ [0, w]
theorem fro_len (w : Int) : ∀ i, (fro w i).length = 2 * i
  | 0 => rfl
  | i + 1 => by
    show (fro w i ++ [0, w]).length = _
    rw [List.length_append, fro_len w i]
    show 2 * i + 2 = _
    omega
theorem cn_fro (w : Int) (hw : 0 < w) : ∀ i : Nat, Cn (fro w (i + 1)) (List.replicate i (0, w)) [0, w]
  | 0 => by
    have h1 : Cn ([] ++ [0]) [] ([] ++ [0]) := cn_push cn_nil rfl (nf_short (by show 1 ≤ 3; omega))
    refine cn_push (rs := [0]) h1 ?_ (nf_short (by show 2 ≤ 3; omega))
    simp only [push]
    rw [if_neg (by omega)]
    rfl
  | i + 1 => by
    have ih := cn_fro w hw i
    have h1 : Cn (fro w (i + 1) ++ [0]) (List.replicate i (0, w)) ([0, w] ++ [0]) := by
      refine cn_push ih ?_ (nf_short (by show 3 ≤ 3; omega))
      simp only [push]
      rw [if_neg (by omega)]
      rfl
    obtain ⟨c0, r0, p0⟩ := h1.ex
    have e : fro w (i + 1 + 1) = (fro w (i + 1) ++ [0]) ++ [w] := by
      show fro w (i + 1) ++ [0, w] = _
      simp
    have e2 : push ([0, w] ++ [0]) w = [0, w, 0, w] := by
      show (0 : Int) :: push [w, 0] w = _
      simp only [push]
      rw [if_neg (by omega)]
    have st : Step [0, w, 0, w] (0, w) [0, w] := by
      have : rg w 0 = (0, w) := rg_down hw
      rw [← this]
      refine Step.here ?_
      have h2 : rg 0 w = (0, w) := rg_up hw
      unfold Taken
      rw [h2, this]
      dsimp only
      omega
    rw [e]
    refine ⟨⟨c0 ++ [(0, w)], ?_, ?_⟩, ih.nf, ?_⟩
    · rw [tp_push]
      refine Run.append (run_push r0 (tp_zz _) w) ?_
      rw [e2]
      exact .cons st (.nil _)
    · rw [List.replicate_succ']
      exact p0.append_right _
    · exact List.pairwise_replicate.mpr (.inr (.inr ⟨rfl, Int.le_refl _⟩))
end RK

/-! k10's mathematics: counts worked out, moved; texts read -/
namespace I1M
open PySem PM RM RN K9
def tf : List Int → Option ((Int × Int) × List Int)
  | a :: b :: c :: d :: post => if Taken a b c d then some (rg b c, a :: d :: post) else (tf (b :: c :: d :: post)).map fun x => (x.1, a :: x.2)
  | _ => none
theorem tf_step : ∀ {p : List Int} {c : Int × Int} {q : List Int}, tf p = some (c, q) → Step p c q
  | a :: b :: c :: d :: post, cy, q, h => by
    unfold tf at h
    split at h
    · rename_i t
      cases h
      exact Step.here t
    · cases e : tf (b :: c :: d :: post) with
      | none => rw [e] at h; cases h
      | some x =>
        rw [e] at h
        obtain ⟨c2, q2⟩ := x
        cases h
        exact Step.there (tf_step e)
  | [], _, _, h => by cases h
  | [_], _, _, h => by cases h
  | [_, _], _, _, h => by cases h
  | [_, _, _], _, _, h => by cases h
def runN : Nat → List Int → List (Int × Int) × List Int
  | 0, p => ([], p)
  | n + 1, p => match tf p with
    | none => ([], p)
    | some (c, q) => (c :: (runN n q).1, (runN n q).2)
theorem run_of : ∀ (n : Nat) (p : List Int), Run p (runN n p).1 (runN n p).2
  | 0, p => .nil p
  | n + 1, p => by
    unfold runN
    split
    · exact .nil p
    · rename_i c q e
      exact .cons (tf_step e) (run_of n q)
def cnB (A : List Int) (C : List (Int × Int)) (B : List Int) : Bool :=
  decide (C.Perm (runN 60 (tp A)).1) && decide ((runN 60 (tp A)).2 = B) && decide (plc B = []) && decide (C.Pairwise Le)
theorem cn_of {A : List Int} {C : List (Int × Int)} {B : List Int} (h : cnB A C B = true) : Cn A C B := by
  unfold cnB at h
  simp only [Bool.and_eq_true, decide_eq_true_eq] at h
  obtain ⟨⟨⟨h1, h2⟩, h3⟩, h4⟩ := h
  refine ⟨⟨_, ?_, h1⟩, nf_of_plc h3, h4⟩
  have := run_of 60 (tp A)
  rw [h2] at this
  exact this
theorem cn_maps {f : Int → Int} (h : K9.Str f) {ns : List Int} {ds fs : List (Int × Int)} {rs : List Int} (g : Cn ns ds rs) (p : fs.Perm (ds.map (mp f))) (srt : fs.Pairwise Le) : Cn (ns.map f) fs (rs.map f) := by
  obtain ⟨cs, run, pm⟩ := g.ex
  refine ⟨⟨cs.map (mp f), ?_, p.trans (pm.map _)⟩, nf_map h g.nf, srt⟩
  rw [tp_map h]
  exact run_map h run
def mv (s : Int) (r : Int × Int) : Int × Int := (r.1 + s, r.2 + s)
theorem cn_mv {ns : List Int} {ds : List (Int × Int)} {rs : List Int} (g : Cn ns ds rs) (hl : ∀ c ∈ ds, c.1 < c.2) (s : Int) : Cn (ns.map (· + s)) (ds.map (mv s)) (rs.map (· + s)) := by
  have h : K9.Str (· + s) := .inl fun a b => by show a < b ↔ a + s < b + s; omega
  refine cn_maps h g ?_ ?_
  · have : ds.map (mv s) = ds.map (mp (· + s)) := List.map_congr_left fun c hc => by
      have := hl c hc
      unfold mp mv
      rw [rg_up (show c.1 + s < c.2 + s by omega)]
    rw [this]
  · rw [List.pairwise_map]
    exact g.srt.imp fun {a b} z => by
      unfold mv
      show a.1 + s < b.1 + s ∨ (a.1 + s = b.1 + s ∧ a.2 + s ≤ b.2 + s)
      have z2 : a.1 < b.1 ∨ (a.1 = b.1 ∧ a.2 ≤ b.2) := z
      omega
abbrev Row := PySem.Str × List Int × List (Int × Int) × List Int
def wds (p : PySem.Str) : List PySem.Str := if p = "" then [] else Txt.split p " "
def okR (r : Row) : Bool := decide (r.1.length ≤ 100) && match Txt.split r.1 "|" with
  | [p0, p1, p2] => (decide (p0.length ≤ 100) && decide (p1.length ≤ 100) && decide (p2.length ≤ 100)) && (decide ((wds p0).map intText? = r.2.1.map some) && (wds p0).all (fun w => decide (w.length ≤ 100))) && (decide ((wds p1).map (fun w => (Txt.split w ":").map intText?) = r.2.2.1.map fun c => [some c.1, some c.2]) && (wds p1).all (fun w => decide (w.length ≤ 100) && (Txt.split w ":").all (fun w => decide (w.length ≤ 100)))) && (decide ((wds p2).map intText? = r.2.2.2.map some) && (wds p2).all (fun w => decide (w.length ≤ 100))) && cnB r.2.1 r.2.2.1 r.2.2.2 && r.2.2.1.all (fun c => decide (c.1 < c.2)) && (decide (r.2.1.length ≤ 20) && decide (r.2.2.1.length ≤ 20) && decide (r.2.2.2.length ≤ 20))
  | _ => false
structure RowOk (s : PySem.Str) (A : List Int) (C : List (Int × Int)) (B : List Int) : Prop where
  ex : ∃ p0 p1 p2, Txt.split s "|" = [p0, p1, p2] ∧ (p0.length ≤ 100 ∧ p1.length ≤ 100 ∧ p2.length ≤ 100) ∧ ((wds p0).map intText? = A.map some ∧ ∀ w ∈ wds p0, w.length ≤ 100) ∧ ((wds p1).map (fun w => (Txt.split w ":").map intText?) = C.map (fun c => [some c.1, some c.2]) ∧ ∀ w ∈ wds p1, w.length ≤ 100 ∧ ∀ v ∈ Txt.split w ":", v.length ≤ 100) ∧ ((wds p2).map intText? = B.map some ∧ ∀ w ∈ wds p2, w.length ≤ 100)
  len : s.length ≤ 100
  cn : Cn A C B
  lt : ∀ c ∈ C, c.1 < c.2
  la : A.length ≤ 20
  lc : C.length ≤ 20
  lb : B.length ≤ 20
theorem ok_row {r : Row} (h : okR r = true) : RowOk r.1 r.2.1 r.2.2.1 r.2.2.2 := by
  unfold okR at h
  rw [Bool.and_eq_true] at h
  obtain ⟨h0, h⟩ := h
  split at h
  · rename_i p0 p1 p2 e
    simp only [Bool.and_eq_true, decide_eq_true_eq, List.all_eq_true] at h
    obtain ⟨⟨⟨⟨⟨⟨l0, h1⟩, h2⟩, h3⟩, h4⟩, h5⟩, h6⟩ := h
    exact ⟨⟨p0, p1, p2, e, ⟨l0.1.1, l0.1.2, l0.2⟩, h1, h2, h3⟩, of_decide_eq_true h0, cn_of h4, h5, h6.1.1, h6.1.2, h6.2⟩
  · cases h
def ROWS : List Row := [("||", [], [], []),
  ("5||5", [5], [], [5]),
  ("5 5 5||5", [5, 5, 5], [], [5]),
  ("1 2 3||1 3", [1, 2, 3], [], [1, 3]),
  ("1 3 1||1 3 1", [1, 3, 1], [], [1, 3, 1]),
  ("3 1 3||3 1 3", [3, 1, 3], [], [3, 1, 3]),
  ("1 1 2 2 1 1||1 2 1", [1, 1, 2, 2, 1, 1], [], [1, 2, 1]),
  ("0 4 1 5|1:4|0 5", [0, 4, 1, 5], [(1, 4)], [0, 5]),
  ("0 4 0 4|0:4|0 4", [0, 4, 0, 4], [(0, 4)], [0, 4]),
  ("0 4 0 4 0|0:4|0 4 0", [0, 4, 0, 4, 0], [(0, 4)], [0, 4, 0]),
  ("4 0 4 0 4 0|0:4 0:4|4 0", [4, 0, 4, 0, 4, 0], [(0, 4), (0, 4)], [4, 0]),
  ("0 1 -1 2 -2||0 1 -1 2 -2", [0, 1, -1, 2, -2], [], [0, 1, -1, 2, -2]),
  ("0 1 -1 2 -2 3 -3||0 1 -1 2 -2 3 -3", [0, 1, -1, 2, -2, 3, -3], [], [0, 1, -1, 2, -2, 3, -3]),
  ("3 -3 2 -2 1||3 -3 2 -2 1", [3, -3, 2, -2, 1], [], [3, -3, 2, -2, 1]),
  ("1 2 -2 2 1||1 2 -2 2 1", [1, 2, -2, 2, 1], [], [1, 2, -2, 2, 1]),
  ("0 9 1 8 2 7||0 9 1 8 2 7", [0, 9, 1, 8, 2, 7], [], [0, 9, 1, 8, 2, 7]),
  ("0 9 2 5 3 7 1 8|2:7 3:5|0 9 1 8", [0, 9, 2, 5, 3, 7, 1, 8], [(2, 7), (3, 5)], [0, 9, 1, 8]),
  ("0 5 3 8 6 9|3:5 6:8|0 9", [0, 5, 3, 8, 6, 9], [(3, 5), (6, 8)], [0, 9]),
  ("0 9 3 5 4 6 2 10|2:9 3:6 4:5|0 10", [0, 9, 3, 5, 4, 6, 2, 10], [(2, 9), (3, 6), (4, 5)], [0, 10]),
  ("7 7 -7 -7 7||7 -7 7", [7, 7, -7, -7, 7], [], [7, -7, 7]),
  ("0 2 1 3 2 4 3 5|1:2 2:3 3:4|0 5", [0, 2, 1, 3, 2, 4, 3, 5], [(1, 2), (2, 3), (3, 4)], [0, 5]),
  ("0 3 1 2||0 3 1 2", [0, 3, 1, 2], [], [0, 3, 1, 2]),
  ("0 3 1 2 1|1:2|0 3 1", [0, 3, 1, 2, 1], [(1, 2)], [0, 3, 1]),
  ("0 3 1 2 0|1:2|0 3 0", [0, 3, 1, 2, 0], [(1, 2)], [0, 3, 0])]
theorem rows_ok : ∀ r ∈ ROWS, RowOk r.1 r.2.1 r.2.2.1 r.2.2.2 := by
  have h : ROWS.all okR = true := by decide +kernel
  intro r hr
  exact ok_row (List.all_eq_true.mp h r hr)
/-- two thousand readings to and fro -/
theorem cn_to (far : Int) : Cn ((RK.fro 1 1000).map (far - ·)) (List.replicate 999 (far - 1, far)) [far, far - 1] := by
  have h : K9.Str (far - ·) := .inr fun a b => by show a < b ↔ far - b < far - a; omega
  have g := cn_maps h (RK.cn_fro 1 (by decide) 999) (fs := List.replicate 999 (far - 1, far)) (by
    rw [List.map_replicate]
    have : mp (far - ·) (0, 1) = (far - 1, far) := by
      unfold mp
      rw [rg_down (show far - 1 < far - 0 by omega)]
      show (far - 1, far - 0) = _
      rw [Int.sub_zero]
    rw [this]) (by
    rw [List.pairwise_replicate]
    right
    show far - 1 < far - 1 ∨ (far - 1 = far - 1 ∧ far ≤ far)
    omega)
  have e : ([0, 1] : List Int).map (far - ·) = [far, far - 1] := by
    show [far - 0, far - 1] = _
    rw [Int.sub_zero]
  rw [e] at g
  exact g
end I1M

/-! xs[::-1] of a list -/
namespace GR
open PySem PySem.Spec PyProof.Rows L2
def tBack (K : PySem.W.Frag) (te : TE) (tk : TO) : TE := fun σ H Q => te σ H fun v H1 => tk σ H1 fun o H2 => o = some (-1) ∧ ∃ a xs, v = .ref a ∧ SqL K H2 a xs ∧ ∀ p, H2 p = none → Q (.ref p) (upd H2 p (.lst xs.reverse))
theorem pe_back {X : Cx} {e st : Expr} {te : TE} {tk : TO} {p2 pos : Pos} (he : PE X e te) (hk : PO X (some st) tk) : PE X (.Subscript e (.Slice none none (some st) p2) pos) (tBack X.K te tk) := by
  refine ⟨fun pins s σ H Q I h => ?_⟩
  refine Subscript_ (thn (he.run pins s σ H _ I h) fun v s1 ⟨x, H1, I1, r1, q1⟩ => ?_)
  refine wpAny_Slice ?_
  rw [evalPart_none]
  refine wpAny_pure ?_
  refine wpAny_pure ?_
  refine thn (hk.run pins s1 σ H1 _ I1 q1) fun vk s2 ⟨o, H2, I2, pk, q2⟩ => ?_
  obtain ⟨rfl, a, xs, rfl, hx, q⟩ := q2
  have I4 : Inv X pins σ H2 { s2 with heap := s2.heap.push { cls := .type "slice", data := .fields #[.none, .none, vk] } } := I2.kept (t' := s2.toks) fun b ob q => Heap.get?_push_of_some _ q
  cases r1
  obtain ⟨its, r, ht, hz⟩ := I4.list hx
  have hlen := r.length
  have hs : ({ s2 with heap := s2.heap.push { cls := .type "slice", data := .fields #[.none, .none, vk] } } : Shared).heap.IsSliceOf s2.heap.objs.size .none .none vk := Heap.IsSliceOf.new ..
  have hg : wpAny (model X.prog X.w) X.A (getItem (.ref a) (.ref s2.heap.objs.size)) (EP X pins σ Q) X.xe { s2 with heap := s2.heap.push { cls := .type "slice", data := .fields #[.none, .none, vk] } } := by
    refine wpAny_getItem_list_slice ht.isList hs .none .none pk (by simp) ?_ (by rw [List.size_toArray] <;> omega)
    rw [PySem.W.krv_pick]
    refine ⟨.ref _, _, I4.laid (t' := s2.toks) (o := .lst xs.reverse) (fun b ob q => Heap.get?_push_of_some _ q) (Nat.le_refl _) ?_, rfl, q _ (I4.hok.fresh (Nat.le_refl _))⟩
    exact ⟨by rw [List.length_reverse]; exact hz, _, 0, r.reverse, Heap.get?_push_size _ rfl⟩
  show wpAny (model X.prog X.w) X.A (subscriptTail e (.Slice none none (some st) p2) (.ref a) (.ref s2.heap.objs.size)) (EP X pins σ Q) X.xe _
  exact tail_any (ops := [.ref a, .ref s2.heap.objs.size]) ht.isList.typeIs slot_list_getitem.lookup hg (by with_unfolding_all rfl)
end GR

/-! == and != of two instances by an own __eq__, both answers -/
namespace GN
open PySem PySem.Spec PyProof.Rows L2
section
variable {M : Model} {prog : Program} {w : World} {A : Around} {E : Value → Shared → Prop} {s : Shared} {K : PySem.W.Frag} {x C L f : Addr} {ox : Obj} {od : Option Obj}
theorem entry_ne {y : Value} (X : K.In s.heap) (I : PySem.W.InstAt s.heap x ox C od) (hs : PySem.W.findIn K (.ref C) "__eq__" = some (some (.ref f))) (hf : PySem.W.isFn K (.ref f) = true) (hu : A.units < cLine) {Q : Fin → Shared → Prop}
    (hcall : wpAny (model prog w) A (call (.ref f) [.ref x, y]) (fun v s' => ∃ b, v = .bool b ∧ Q (.done (.ret (.bool (!b)))) s') E s) :
    wpAny (model prog w) A (Builtin.«object.__ne__» ⟨[.ref x, y], []⟩) Q E s := by
  unfold Builtin.«object.__ne__»
  repeat (first
    | with_reducible refine wpAny_cRoomFor hu ?_
    | (refine wpAny_bind (m := callSpecialIfBound? (.ref x) (Str.ofString "__eq__") [y])
        (PySem.W.ifBound_K X I hs hf (wpAny_mono hcall (fun r s' hr => by
          obtain ⟨b, rfl, hq⟩ := hr
          repeat (first | exact hq | exact wpAny_pure hq | exact wpAny_truthy_bool hq | (refine wpAny_bind (m := truthy (.bool _)) (wpAny_truthy_bool ?_)) | wp_step)) fun _ _ e => e)))
    | wp_step)
theorem ifBound_ne {args : List Value} {Q : Option Value → Shared → Prop} (X : K.In s.heap) (I : PySem.W.InstAt s.heap x ox C od) (hs : PySem.W.findIn K (.ref C) "__ne__" = some (some (.builtin "object.__ne__")))
    (h : wpAny M A (call (.builtin "object.__ne__") (.ref x :: args)) (fun v => Q (some v)) E s) : wpAny M A (callSpecialIfBound? (.ref x) "__ne__" args) Q E s := by
  simp only [callSpecialIfBound?, bindSpecialIfBound?]
  refine wpAny_holding (wpAny_bind (wpAny_bind (wpAny_bind (I.type.here ((PySem.W.looks_findIn X hs).here ?_)))))
  refine wpAny_bind (wpAny_askSetting (wpAny_ite ?_))
  have fin : wpAny M A (call (.builtin "object.__ne__") ([.ref x] ++ args) >>= fun v => pure (some v)) Q E s := wpAny_bind (wpAny_mono h (fun v s' h' => wpAny_pure h') fun _ _ h' => h')
  split
  · exact wpAny_bind (wpAny_of_eq (F.cmp_object.ne.bind _) (wpAny_pure (by exact fin)))
  · exact wpAny_tryCatch (wpAny_bind (wpAny_of_eq (F.cmp_object.ne.bind _) (wpAny_pure (by exact fin))))
theorem rc_ne {b tb : Value} {Q : Value → Shared → Prop} (hu : A.units + 1 < cLine) (X : K.In s.heap) (I : PySem.W.InstAt s.heap x ox C od) (hb : PySem.W.Looks (model prog w) s.heap (typeOf b) tb) (hn : PySem.W.notFirst K C tb = true)
    (hm : PySem.W.mroIn K C (.type "object") = some true) (hs : PySem.W.findIn K (.ref C) "__eq__" = some (some (.ref f))) (hf : PySem.W.isFn K (.ref f) = true) (hne : PySem.W.findIn K (.ref C) "__ne__" = some (some (.builtin "object.__ne__")))
    (h : wpAny (model prog w) A.in1 (call (.ref f) [.ref x, b]) (fun v s' => ∃ r, v = .bool r ∧ Q (.bool (!r)) s') E s) : wpAny (model prog w) A (richCompare .NotEq (.ref x) b) Q E s := by
  have one : wpAny (model prog w) A (tryCompare (.ref x) "__ne__" b) (fun r s' => ∃ v, r = some v ∧ Q v s') E s := by
    unfold tryCompare
    refine wpAny_bind (ifBound_ne X I hne (wpAny_call (codeAny_call_builtin F.cmp_object.ne.plain F.cmpEntry_ne (PySem.W.check_slot F.cmpKind_ne F.cmpSplit_ne (I.type.andThen (PySem.W.looks_mroIn X hm)) (F.cmpArgs_ne _ _)
      (entry_ne (A := A.in1) X I hs hf hu (wpAny_mono h (fun v s' hv => ?_) fun _ _ e => e))))))
    obtain ⟨r, rfl, hq⟩ := hv
    first
      | exact ⟨r, rfl, wpAny_pure ⟨_, rfl, hq⟩⟩
      | exact ⟨r, rfl, wpAny_pure (wpAny_pure ⟨_, rfl, hq⟩)⟩
      | exact ⟨r, rfl, _, rfl, hq⟩
  unfold richCompare
  simp only [oneThing_ref]
  refine wpAny_holding (wpAny_bind (wpAny_cRoomFor (Nat.lt_of_succ_lt hu) ?_))
  refine wpAny_bind (I.type.here (wpAny_bind (hb.here ?_)))
  split
  · rename_i q
    have e : PySem.W.subIn K tb (.ref C) = some false := by
      rcases Bool.or_eq_true_iff.mp hn with e | e
      · rw [beq_iff_eq.mp e] at q; simp at q
      · exact beq_iff_eq.mp e
    refine wpAny_bind ((PySem.W.looks_subIn X e).here ?_)
    simp only [Bool.false_eq_true, if_false]
    refine wpAny_bind (wpAny_mono one (fun r s' z => ?_) fun _ _ e => e)
    obtain ⟨v, rfl, hq⟩ := z
    exact wpAny_pure hq
  · refine wpAny_bind (wpAny_pure ?_)
    simp only [Bool.false_eq_true, if_false]
    refine wpAny_bind (wpAny_mono one (fun r s' z => ?_) fun _ _ e => e)
    obtain ⟨v, rfl, hq⟩ := z
    exact wpAny_pure hq
end
section
variable {X : Cx} {n : Nat} {CX : CXT} {C f : Addr} {fd : FuncData} {ps : List Str} {sp : Sp} {E : XK}
/-- a def of the text, called from below -/
theorem call_own (F : FnOk X.prog X.w X.K X.mg X.base CX n f fd ps sp) (hb : Binds X.K fd ps []) (hx : Passes CX X E) {A : Around} (sb : Sub X n A) {pins : List (Addr × Obj)} {σ : L2.St} {H : Hp} {s : Shared} (I : Inv X pins σ H s) {vs : List V} {us : List Value} (r2 : Vals vs us) {Q : VK} (hsp : sp vs H Q E) :
    wpAny (model X.prog X.w) A (call (.ref f) us) (fun v s' => ∃ z H', Inv X pins σ H' s' ∧ RelV z v ∧ Q z H') X.xe s := by
  have e0 : Env0 X.prog X.w X.K X.mg X.base A X.stack s H := by
    have e := I.env0
    exact ⟨by rw [sb.fr]; exact e.frames, e.mod, e.bs, e.bsz, e.funs, e.frf, e.hok, e.bare⟩
  have hl := F.len _ _ _ _ hsp
  refine wpAny_call (codeAny_mono (F.run A X.stack s H ⟨us, []⟩ us vs _ E sb.room e0 (by
    have := hb s us I.kIn (by rw [List.append_nil, ← r2.length]; exact hl)
    simpa using this) r2 hsp) fun r s' hq => ?_)
  cases r with
  | error e => exact hx pins σ H s e s' I hq
  | ok fl =>
    cases fl with
    | ret w =>
      obtain ⟨z, H', I', rz, ez⟩ := I.after hq
      exact ⟨z, H', I', rz, ez⟩
    | next => exact False.elim hq
    | brk => exact False.elim hq
    | cont => exact False.elim hq
/-- what == (neg: !=) of two instances of the class asks -/
def rOwn (C : Addr) (sp : Sp) (E : XK) (neg : Bool) : R2 := fun x y H Q => ∃ a b dx dy fs gs, x = .ref a ∧ y = .ref b ∧ H a = some (.ins C dx fs) ∧ H b = some (.ins C dy gs) ∧ sp [.ref a, .ref b] H (fun v H' => ∃ r, v = .bl r ∧ Q (.bl (neg != r)) H') E
theorem op_eqOwn (F : FnOk X.prog X.w X.K X.mg X.base CX n f fd ps sp) (hr : Room n X.A) (hs : PySem.W.findIn X.K (.ref C) "__eq__" = some (some (.ref f))) (hf : PySem.W.isFn X.K (.ref f) = true) (hb : Binds X.K fd ps []) (hx : Passes CX X E) : OpR X (compareOp .Eq) (rOwn C sp E false) := by
  intro pins s σ H x y v u Q I rx ry hq
  obtain ⟨a, b, dx, dy, fs, gs, rfl, rfl, ha, hb', hsp⟩ := hq
  cases rx
  cases ry
  obtain ⟨mA, J, _⟩ := ins_get I.hok ha
  obtain ⟨mB, J', _⟩ := ins_get I.hok hb'
  obtain ⟨od, J, _⟩ := J.look
  obtain ⟨od', J', _⟩ := J'.look
  have sb : Sub X n X.A := ⟨hr, rfl⟩
  have r2 : Vals [V.ref a, V.ref b] [Value.ref a, Value.ref b] := .cons rfl (.cons rfl .nil)
  obtain ⟨m, hF⟩ := I.fr
  show wpAny (model X.prog X.w) X.A (richCompare .Eq _ _) (EP X pins σ Q) X.xe s
  refine PySem.W.cmp_K (op := .Eq) (tb := .ref C) sb.room.units0 hF I.ok.mod.kin J J'.type (by simp [PySem.W.notFirst]) hs hf ?_
  refine wpAny_mono (call_own F hb hx sb I r2 hsp) (fun v s' hv => ?_) fun _ _ e => e
  obtain ⟨z, H', I', rz, r, rfl, q⟩ := hv
  cases rz
  exact ⟨.bl r, H', I', rfl, by cases r <;> exact q⟩
theorem op_neOwn (F : FnOk X.prog X.w X.K X.mg X.base CX n f fd ps sp) (hr : Room (n + 1) X.A) (hs : PySem.W.findIn X.K (.ref C) "__eq__" = some (some (.ref f))) (hf : PySem.W.isFn X.K (.ref f) = true) (hm : PySem.W.mroIn X.K C (.type "object") = some true)
    (hne : PySem.W.findIn X.K (.ref C) "__ne__" = some (some (.builtin "object.__ne__"))) (hb : Binds X.K fd ps []) (hx : Passes CX X E) : OpR X (compareOp .NotEq) (rOwn C sp E true) := by
  intro pins s σ H x y v u Q I rx ry hq
  obtain ⟨a, b, dx, dy, fs, gs, rfl, rfl, ha, hb', hsp⟩ := hq
  cases rx
  cases ry
  obtain ⟨mA, J, _⟩ := ins_get I.hok ha
  obtain ⟨mB, J', _⟩ := ins_get I.hok hb'
  obtain ⟨od, J, _⟩ := J.look
  obtain ⟨od', J', _⟩ := J'.look
  have sb : Sub X (n + 1) X.A := ⟨hr, rfl⟩
  have r2 : Vals [V.ref a, V.ref b] [Value.ref a, Value.ref b] := .cons rfl (.cons rfl .nil)
  show wpAny (model X.prog X.w) X.A (richCompare .NotEq _ _) (EP X pins σ Q) X.xe s
  refine rc_ne (tb := .ref C) sb.in1.room.units0 I.kIn J J'.type (by simp [PySem.W.notFirst]) hm hs hf hne ?_
  refine wpAny_mono (call_own F hb hx sb.in1 I r2 hsp) (fun v s' hv => ?_) fun _ _ e => e
  obtain ⟨z, H', I', rz, r, rfl, q⟩ := hv
  cases rz
  exact ⟨r, rfl, .bl (!r), H', I', rfl, by cases r <;> exact q⟩
end
end GN

/-! lists or tuples of ints: max, min, index, slices; len of a set -/
namespace GU
open PySem PySem.Spec PyProof.Rows L2 KA PH
section
variable {prog : Program} {w : World} {A : Around} {E : Value → Shared → Prop} {s : Shared} {l : Addr} {xs : Array (Int × Tok)}
theorem iter_intTup {Q : Value → Shared → Prop} (hl : s.heap.IsTuple l (intItems xs))
    (h : ∀ s₂ : Shared, s₂ = { s with heap := s.heap.push { cls := .type "tuple_iterator", data := .fields #[.ref l, .int 0 0] } } →
      (s₂.heap.IsTupleIter s.heap.objs.size l 0 ∧ s₂.heap.IsTuple l (intItems xs)) → (∀ b ∈ [s.heap.objs.size, l], b < s₂.heap.objs.size) → l ≠ s.heap.objs.size → Q (.ref s.heap.objs.size) s₂) :
    wpAny (model prog w) A (pyIter (.ref l)) Q E s := by
  have hlt : l < s.heap.objs.size := by obtain ⟨_, e, _⟩ := hl; exact Heap.lt_size e
  refine wpAny_pyIter_tuple hl (h _ rfl ⟨⟨_, Heap.get?_push_size _ rfl, rfl, rfl⟩, hl.push _⟩ (fun b hb => ?_) (Nat.ne_of_lt hlt))
  show b < (s.heap.push _).objs.size
  rw [Heap.size_push]
  rcases List.mem_cons.mp hb with rfl | hb
  · exact Nat.lt_succ_self _
  · rcases List.mem_cons.mp hb with rfl | hb
    · exact Nat.lt_succ_of_lt hlt
    · cases hb
theorem old_keptT {h' : Heap} (hk : ∀ b o, b ∉ [s.heap.objs.size] → (s.heap.push { cls := .type "tuple_iterator", data := .fields #[.ref l, .int 0 0] }).get? b = some o → h'.get? b = some o) :
    ∀ b o, s.heap.get? b = some o → h'.get? b = some o := fun b o e => by
  refine hk b o (fun hm => ?_) (Heap.get?_push_of_some _ e)
  rcases List.mem_cons.mp hm with e1 | hm
  · exact absurd (e1 ▸ Heap.lt_size e) (Nat.lt_irrefl _)
  · cases hm
theorem max_intTup {Q : Value → Shared → Prop} (hh : A.handled = none) (hl : s.heap.IsTuple l (intItems xs)) (hne : 0 < xs.size)
    (h : ∀ v h' tk, (intItems xs)[argBest (fun i j => decide (numAt xs i > numAt xs j)) (xs.size - 1)]? = some v → (∀ b o, s.heap.get? b = some o → h'.get? b = some o) → Q v { s with heap := h', toks := tk }) :
    wpAny (model prog w) A (call (.builtin "max") [.ref l]) Q E s := by
  refine call_max_walk (iter_intTup hl fun s₂ e st hfp hlI => ?_)
  subst e
  refine ⟨_, _, _, _, _, _, _, rfl, Walks.tuple (A := A.in1) hh _ l hlI (intItems xs), st, hfp, by simpa [intItems] using hne, CmpOf.ints_gt (numAt xs) (fun _ _ => intItems_at), fun v h' tk hP hk => ?_⟩
  exact h v h' tk (by simpa [intItems] using hP) (old_keptT hk)
theorem min_intTup {Q : Value → Shared → Prop} (hh : A.handled = none) (hl : s.heap.IsTuple l (intItems xs)) (hne : 0 < xs.size)
    (h : ∀ v h' tk, (intItems xs)[argBest (fun i j => decide (numAt xs i < numAt xs j)) (xs.size - 1)]? = some v → (∀ b o, s.heap.get? b = some o → h'.get? b = some o) → Q v { s with heap := h', toks := tk }) :
    wpAny (model prog w) A (call (.builtin "min") [.ref l]) Q E s := by
  refine call_min_walk (iter_intTup hl fun s₂ e st hfp hlI => ?_)
  subst e
  refine ⟨_, _, _, _, _, _, _, rfl, Walks.tuple (A := A.in1) hh _ l hlI (intItems xs), st, hfp, by simpa [intItems] using hne, CmpOf.ints_lt (numAt xs) (fun _ _ => intItems_at), fun v h' tk hP hk => ?_⟩
  exact h v h' tk (by simpa [intItems] using hP) (old_keptT hk)
end
section
variable {prog : Program} {w : World} {A : Around} {E : Value → Shared → Prop} {s : Shared} {l : Addr} {its : List Value} {ns : List Int} {Q : Value → Shared → Prop}
theorem max_rawT (hh : A.handled = none) (hl : IsTup s.heap l its.toArray) (hi : IntsAre its ns) (hne : 0 < ns.length)
    (h : ∀ h' tk M t', (∀ b o, s.heap.get? b = some o → h'.get? b = some o) → M ∈ ns → (∀ a, a ∈ ns → a ≤ M) → Q (.int M t') { s with heap := h', toks := tk }) : wpAny (model prog w) A (call (.builtin "max") [.ref l]) Q E s := by
  obtain ⟨xs, e⟩ := hi.allInts.items
  have hn : numsOf (intItems xs).toList = ns := by rw [← e]; exact hi.numsOf
  rw [nums_intItems] at hn
  subst hn
  rw [e] at hl
  have hsz : 0 < xs.size := by simpa using hne
  have hl2 : s.heap.IsTuple l (intItems xs) := by
    obtain ⟨o, ho, hc, n, hd⟩ := hl
    exact ⟨o, ho, hc, n, hd⟩
  refine max_intTup hh hl2 hsz fun v h' tk hv hk => ?_
  obtain ⟨t, rfl⟩ := intItems_at hv
  obtain ⟨h1, h2⟩ := argBest_gt (numAt xs) (xs.size - 1)
  refine h h' tk _ t hk ?_ fun a ha => ?_
  · rw [numAt_eq]; exact PySem.getD_mem (by rw [List.length_map, Array.length_toList]; omega)
  · obtain ⟨j, hj, rfl⟩ := mem_getD ha
    rw [List.length_map, Array.length_toList] at hj
    rw [← numAt_eq]; exact h2 j (by omega)
theorem min_rawT (hh : A.handled = none) (hl : IsTup s.heap l its.toArray) (hi : IntsAre its ns) (hne : 0 < ns.length)
    (h : ∀ h' tk M t', (∀ b o, s.heap.get? b = some o → h'.get? b = some o) → M ∈ ns → (∀ a, a ∈ ns → M ≤ a) → Q (.int M t') { s with heap := h', toks := tk }) : wpAny (model prog w) A (call (.builtin "min") [.ref l]) Q E s := by
  obtain ⟨xs, e⟩ := hi.allInts.items
  have hn : numsOf (intItems xs).toList = ns := by rw [← e]; exact hi.numsOf
  rw [nums_intItems] at hn
  subst hn
  rw [e] at hl
  have hsz : 0 < xs.size := by simpa using hne
  have hl2 : s.heap.IsTuple l (intItems xs) := by
    obtain ⟨o, ho, hc, n, hd⟩ := hl
    exact ⟨o, ho, hc, n, hd⟩
  refine min_intTup hh hl2 hsz fun v h' tk hv hk => ?_
  obtain ⟨t, rfl⟩ := intItems_at hv
  obtain ⟨h1, h2⟩ := argBest_lt (numAt xs) (xs.size - 1)
  refine h h' tk _ t hk ?_ fun a ha => ?_
  · rw [numAt_eq]; exact PySem.getD_mem (by rw [List.length_map, Array.length_toList]; omega)
  · obtain ⟨j, hj, rfl⟩ := mem_getD ha
    rw [List.length_map, Array.length_toList] at hj
    rw [← numAt_eq]; exact h2 j (by omega)
end
section
variable {X : Cx}
/-- one of two readings -/
theorem pe_either {e : Expr} {t u : TE} (h : PE X e t) (g : PE X e u) : PE X e (fun σ H Q => t σ H Q ∨ u σ H Q) :=
  ⟨fun pins s σ H Q I q => q.elim (h.run pins s σ H Q I) (g.run pins s σ H Q I)⟩
/-- max(xs), min(xs) of a list or a tuple of ints -/
def rMaxS (K : PySem.W.Frag) : List V → Hp → VK → Prop := fun vs H Q => ∃ (a : Addr) (ns : List Int), vs = [V.ref a] ∧ Sq K H a (ns.map V.int) ∧ 0 < ns.length ∧ ∀ m, m ∈ ns → (∀ y, y ∈ ns → y ≤ m) → Q (.int m) H
def rMinS (K : PySem.W.Frag) : List V → Hp → VK → Prop := fun vs H Q => ∃ (a : Addr) (ns : List Int), vs = [V.ref a] ∧ Sq K H a (ns.map V.int) ∧ 0 < ns.length ∧ ∀ m, m ∈ ns → (∀ y, y ∈ ns → m ≤ y) → Q (.int m) H
theorem cr_maxS (hc : X.calm = true) : CallR X (.builtin "max") (rMaxS X.K) := by
  intro pins s σ H vs us Q I r h
  obtain ⟨a, ns, rfl, hs | hs, hne, q⟩ := h
  · exact cr_max hc pins s σ H _ us Q I r ⟨a, ns, rfl, hs, hne, q⟩
  · obtain ⟨its, rv, hl, _⟩ := I.tuple hs
    rw [Vals.ref1 r]
    exact max_rawT (I.ok.hd hc) hl rv.ints hne fun h' tk m t' hk h1 h2 => ⟨.int _, H, I.kept hk, ⟨_, rfl⟩, q m h1 h2⟩
theorem cr_minS (hc : X.calm = true) : CallR X (.builtin "min") (rMinS X.K) := by
  intro pins s σ H vs us Q I r h
  obtain ⟨a, ns, rfl, hs | hs, hne, q⟩ := h
  · exact cr_min hc pins s σ H _ us Q I r ⟨a, ns, rfl, hs, hne, q⟩
  · obtain ⟨its, rv, hl, _⟩ := I.tuple hs
    rw [Vals.ref1 r]
    exact min_rawT (I.ok.hd hc) hl rv.ints hne fun h' tk m t' hk h1 h2 => ⟨.int _, H, I.kept hk, ⟨_, rfl⟩, q m h1 h2⟩
/-- xs[lo:hi] of a list or a tuple -/
def rSlS (K : PySem.W.Frag) : V → Option Int → Option Int → Hp → VK → Prop := fun x lo hi H Q => ∃ a xs, x = .ref a ∧ Sq K H a xs ∧ ∀ H' p, Same H H' → Sq K H' p (cutV xs lo hi) → Q (.ref p) H'
theorem cut_whole {xs : List V} {lo hi : Option Int} (h : HT.sIx xs.length 0 lo = 0 ∧ HT.sIx xs.length xs.length hi = xs.length) : cutV xs lo hi = xs := by
  unfold cutV
  rw [h.1, h.2, List.drop_zero, Nat.sub_zero, List.take_length]
theorem sl_S : SlR X (rSlS X.K) := by
  intro pins s σ H x v vl vu lo hi sl Q I rx hs pl pu h
  obtain ⟨a, xs, rfl, hS | hS, q⟩ := h
  · exact sl_list pins s σ H _ v vl vu lo hi sl Q I rx hs pl pu ⟨a, xs, rfl, hS, fun p np => q _ p (same_new np) (.inl (SqL.of upd_same))⟩
  · exact sl_tupA pins s σ H _ v vl vu lo hi sl Q I rx hs pl pu ⟨a, xs, rfl, hS, fun w => q H a (Same.refl H) (by rw [cut_whole w]; exact .inr hS), fun _ p np => q _ p (same_new np) (.inr (SqT.of upd_same))⟩
/-- xs.index(y) of ints -/
def rIdxL (K : PySem.W.Frag) : V → List V → Hp → VK → Prop := fun x xs H Q => ∃ (a : Addr) (ns : List Int) (y : Int) (j : Nat), x = V.ref a ∧ xs = [V.int y] ∧ SqL K H a (ns.map V.int) ∧ ns[j]? = some y ∧ (∀ m z, m < j → ns[m]? = some z → z ≠ y) ∧ Q (.int (j : Nat)) H
def rIdxT (K : PySem.W.Frag) : V → List V → Hp → VK → Prop := fun x xs H Q => ∃ (a : Addr) (ns : List Int) (y : Int) (j : Nat), x = V.ref a ∧ xs = [V.int y] ∧ SqT K H a (ns.map V.int) ∧ ns[j]? = some y ∧ (∀ m z, m < j → ns[m]? = some z → z ≠ y) ∧ Q (.int (j : Nat)) H
theorem flat_ints (ns : List Int) : (ns.map V.int).all flatV = true := by
  rw [List.all_map]
  exact List.all_eq_true.mpr fun _ _ => rfl
theorem mt_idxL : MtR X "list.index" (rIdxL X.K) := by
  intro pins s σ H x xs v us Q I rx rxs h
  obtain ⟨a, ns, y, j, rfl, rfl, hs, hy, hno, q⟩ := h
  refine mt_index pins s σ H _ _ v us Q I rx rxs ⟨a, ns.map V.int, .int y, j, .int y, rfl, rfl, hs, rfl, flat_ints ns, at_int hy, beq_self_eq_true y, fun m z hm hz => ?_, q⟩
  obtain ⟨r, hr, rfl⟩ := int_at hz
  exact beq_eq_false_iff_ne.mpr (hno m r hm hr)
theorem mt_idxT : MtR X "tuple.index" (rIdxT X.K) := by
  intro pins s σ H x xs v us Q I rx rs h
  obtain ⟨p, ys, z, j, rfl, rfl, hq, hy, hno, q⟩ := h
  cases rx
  obtain ⟨u, rfl, t, rfl⟩ := vals1 rs
  obtain ⟨its, r, pl, hz⟩ := I.tuple hq
  obtain ⟨⟨cls, dd, dt, sl⟩, ho, hc, n, hd⟩ := pl
  simp only at hc hd
  subst hc
  subst hd
  have hl : its.toArray.size = ys.length := by rw [List.size_toArray, ← r.length, List.length_map]
  have hj : j < its.toArray.size := by rw [hl]; exact (List.getElem?_eq_some_iff.mp hy).1
  have at' : ∀ (m : Nat) (hm : m < its.toArray.size), ∃ y t', ys[m]? = some y ∧ its.toArray[m] = Value.int y t' := fun m hm => by
    have hm' : m < ys.length := by rw [← hl]; exact hm
    obtain ⟨w, hw, t', hw'⟩ := r.get (i := m) (x := .int ys[m]) (by simp [hm'])
    refine ⟨ys[m], t', List.getElem?_eq_getElem hm', ?_⟩
    have e := (List.getElem?_eq_some_iff.mp hw).2
    rw [← hw', ← e]
    simp
  refine call_meets PySem.F.slot_tuple_index ⟨_, ho, rfl⟩ PySem.F.entry_tuple_index (PySem.F.args_tuple_index_2 _ _) (TI.tuple_indexAt p its.toArray n dd sl (.int z t) (eqU (.int z)) j hj ?_ ?_)
    ⟨ho, fun w hw => mem_eqAt (x := .int z) ⟨t, rfl⟩ rfl r (flat_ints ys) w (by simpa using hw), ⟨.int (j : Nat), H, I.tok _, ⟨_, rfl⟩, q⟩⟩
  · obtain ⟨y, t', h1, h2⟩ := at' j hj
    rw [hy] at h1
    cases h1
    rw [h2]
    show (z == z) = true
    exact beq_self_eq_true z
  · intro m hm hmj
    obtain ⟨y, t', h1, h2⟩ := at' m hm
    rw [h2]
    show (y == z) = false
    exact beq_eq_false_iff_ne.mpr (hno m y hmj h1)
/-- len(s) of a set of ints -/
def rLenSet (w : World) : List V → Hp → VK → Prop := fun vs H Q => ∃ (a : Addr) (S : Int → Bool) (n : Nat), vs = [V.ref a] ∧ H a = some (SetO w a S n) ∧ n < 2 ^ 40 ∧ ((∃ ks : List Int, ks.Nodup ∧ ks.length = n ∧ ∀ k, k ∈ ks ↔ S k = true) → Q (.int (n : Nat)) H)
theorem cr_lenSet : CallR X (.builtin "len") (rLenSet X.w) := by
  intro pins s σ H vs us Q I r h
  obtain ⟨a, S, n, rfl, ha, hn, q⟩ := h
  rw [Vals.ref1 r]
  obtain ⟨o, es, ep, t, ho, hex, hd, h1, h2, h3, h4, hf, hsz, _⟩ := setO_get I ha
  refine call_len_set ho hex hd hf (by omega) ⟨.int (n : Nat), H, I.tok _, ⟨_, by rw [hsz]⟩, q ⟨es.toList.map keyOf, h2, by rw [List.length_map, Array.length_toList, hsz], fun k => (h3 k).symm⟩⟩
end
end GU

/-! walks and items of what is a list or a tuple; keyword-only parameters -/
namespace GB
open PySem PySem.Spec PyProof.Rows L2 PH KA
section
variable {X : Cx} {tg l : Expr} {tl : TE}
def iBoth (K : PySem.W.Frag) (tl : TE) : TI := fun σ H R => tl σ H fun x H1 => ∃ a, x = .ref a ∧ (((∃ xs, SqL K H1 a xs) ∧ R (Itl K a) H1) ∨ ((∃ xs, SqT K H1 a xs) ∧ R (Itt K a) H1))
theorem pi_both (hl : PE X l tl) : PI X tg l (iBoth X.K tl) := by
  refine ⟨fun pins s σ H R I h => ?_⟩
  refine thn (hl.run pins s σ H _ I h) fun v s1 ⟨x, H1, I1, r1, q1⟩ => ?_
  obtain ⟨a, e, q⟩ := q1
  subst e
  cases r1
  rcases q with ⟨⟨xs, hq⟩, q⟩ | ⟨⟨xs, hq⟩, q⟩
  · obtain ⟨its, rv, p, hz⟩ := I1.list hq
    refine wpAny_pyIter_list p.isList ?_
    refine ⟨s1.heap.objs.size, [s1.heap.objs.size], _, _, H1, rfl, I1.kept (t' := s1.toks) fun b o e => Heap.get?_push_of_some _ e, turn_list a _, ⟨_, Heap.get?_push_size _ rfl, rfl, rfl⟩, fun b hb => ?_, q⟩
    have e : b = s1.heap.objs.size := by simpa using hb
    subst e
    exact I1.fpOk (Nat.le_refl _) (I1.hok.fresh (Nat.le_refl _))
  · obtain ⟨its, rv, p, hz⟩ := I1.tuple hq
    refine wpAny_pyIter_tuple (show s1.heap.IsTuple a its.toArray from p) ?_
    refine ⟨s1.heap.objs.size, [s1.heap.objs.size], _, _, H1, rfl, I1.kept (t' := s1.toks) fun b o e => Heap.get?_push_of_some _ e, turn_tuple a _, ⟨_, Heap.get?_push_size _ rfl, rfl, rfl⟩, fun b hb => ?_, q⟩
    have e : b = s1.heap.objs.size := by simpa using hb
    subst e
    exact I1.fpOk (Nat.le_refl _) (I1.hok.fresh (Nat.le_refl _))
def rIxB (K : PySem.W.Frag) : R2 := fun x y H Q => ∃ p xs i v, x = .ref p ∧ y = .int i ∧ Sq K H p xs ∧ atI xs i = some v ∧ Q v H
theorem ix_both : IxR X (rIxB X.K) := by
  intro value slice pins s σ H x y v u Q I rx ry ⟨p, xs, i, z, e1, e2, hq, he, q⟩ hs
  rcases hq with hq | hq
  · exact ix_list value slice pins s σ H x y v u Q I rx ry ⟨p, xs, i, z, e1, e2, hq, he, q⟩ hs
  · exact ix_tup value slice pins s σ H x y v u Q I rx ry ⟨p, xs, i, z, e1, e2, hq, he, q⟩ hs
end
/-- f(e, .., k = v): the keyword-only parameter is named -/
theorem kbn1 {K : PySem.W.Frag} {x qual : Str} {params : Arguments} {body : List Stmt} {scope : Scope} {kws : List (Str × V)} {f : Addr} {fd : FuncData} {ps : List Str} {k : Str} (F : FunD K x qual params body scope [] kws f fd) (n : Nat)
    (h : ∀ (kV doc pm : Value) (an : Option Addr) (cdv ct : Value) (us : List Value) (w : Value), us.length = n → bindArgs (PySem.W.fnOf x qual params body scope .none kV doc pm an cdv ct) ⟨us, [(k, w)]⟩ = pure (ps.zip (us ++ [w]))) :
    KBn K fd ps n [k] (fun us ws => us ++ ws) (fun vs zs => vs ++ zs) := by
  obtain ⟨oc, od, dV, kV, doc, pm, an, cdv, ct, osl, rfl, lk, hcd, hD, hK⟩ := F.ex
  rcases hD with ⟨_, rfl⟩ | ⟨e, _⟩
  · refine ⟨fun s us ws X l1 l2 => ?_, fun r1 r2 => r1.append r2⟩
    match ws, l2 with
    | [w], _ => exact .of_eq (h kV doc pm an cdv ct us w l1)
  · exact absurd rfl e
end GB

/-! tuple * int, also of the empty tuple -/
namespace GT0
open PySem PySem.Spec PyProof.Rows L2
theorem tuple_mul0 (l : Addr) (n : Nat) (sl : Array (Option Value)) (dd : Option Addr) (x : Int) (u : Tok) (c0 : (decide (x < -(2 ^ 63)) || decide (x ≥ 2 ^ 63)) = false) :
    Meets (Builtin.«tuple.__mul__» ⟨[.ref l, .int x u], []⟩) (fun _ R s => s.heap.get? l = some { cls := .type "tuple", dict := dd, data := .seq #[] n, slots := sl } ∧ R (.ok (.ret (.ref l))) s) :=
  .of_wp fun prog w A R s h => by
    obtain ⟨hp, g, d, tk, os⟩ := s
    obtain ⟨hl, h⟩ := h
    have f1 := AutoSeq1.idx_int
    wp_walk using wpAny_loadPart' hl
    repeat (first
      | (refine wpAny_ite_false (decide_eq_false (by rw [c0]; exact Bool.false_ne_true)) ?_; wp_walk using wpAny_loadPart' hl))
    exact ⟨_, rfl, h⟩
def rRep0 (K : PySem.W.Frag) : R2 := fun x y H Q => ∃ l k, x = .ref l ∧ y = .int k ∧ SqT K H l [] ∧ 2 ≤ k ∧ k ≤ 1000 ∧ Q (.ref l) H
section
variable {X : Cx}
theorem op_rep0 : OpR X (binaryOp .Mult) (rRep0 X.K) := by
  intro pins s σ H x y v u Q I rx ry h
  obtain ⟨l, k, rfl, rfl, hT, h1, h2, q⟩ := h
  cases rx
  obtain ⟨t, rfl⟩ := ry
  obtain ⟨its, r, ⟨⟨cls, dd, data, sl⟩, ho, hc, n, hd⟩, hs⟩ := I.tuple hT
  simp only at hc hd
  subst hc hd
  cases r
  have c0 : (decide (k < -(2 ^ 63)) || decide (k ≥ 2 ^ 63)) = false := by
    rw [decide_eq_false (by omega), decide_eq_false (by omega)] <;> rfl
  exact wpAny_binaryOp_repeat_ref (T := "tuple") (U := "int") (by decide) ⟨_, ho, rfl⟩ (fun s' => typeIs_int s' k t) noFill_tuple_mul F.fills_int_mul F.slot_int_rmul repeat_tuple F.slot_int_index.lookup
    (call_meets F.slot_int_rmul (typeIs_int s k t) F.entry_int_rmul (F.args_int_rmul_2 _ _) (int_rmul_tuple k t l #[] n dd sl)
      ⟨ho, rfl, ⟨_, ho, rfl⟩, call_meets F.slot_tuple_mul ⟨_, ho, rfl⟩ F.entry_tuple_mul (F.args_tuple_mul_2 _ _) (tuple_mul0 l n sl dd k t c0) ⟨ho, .ref l, H, I, rfl, q⟩⟩)
theorem op_repA : OpR X (binaryOp .Mult) (fun x y H Q => rRepT X.K x y H Q ∨ rRep0 X.K x y H Q) := op_repT.or op_rep0
end
end GT0

set_option pp.maxSteps 900
/-! k10: the rows, a row moved -/
namespace I1R
open PySem PySem.Spec PyProof.Rows L2 KA KD PH PM PA PB PC RM RN RC RS QE QF QG QH QJ RJ UJN I1M
open K9 (Cn cn_one)
abbrev sRo : Stmt := topS 29
abbrev sMv : Stmt := topS 30
theorem scRo : FnScope ["rows"] [] (defScope sRo) := ⟨rfl, rfl, rfl, by decide +kernel, rfl, by decide +kernel, by decide +kernel⟩
theorem scMv : FnScope ["row", "far", "parts", "cycles", "word", "ends", "load", "part"] ["row", "far"] (defScope sMv) := ⟨rfl, rfl, rfl, by decide +kernel, rfl, by decide +kernel, by decide +kernel⟩
/-- lists of texts stand at the refs -/
def LsAt (H : Hp) : List V → List (List Str) → Prop
  | [], [] => True
  | x :: xs, t :: ts => (∃ a, x = .ref a ∧ H a = some (.lst (t.map V.str))) ∧ LsAt H xs ts
  | _, _ => False
theorem LsAt.same {H H' : Hp} (s : Same H H') : ∀ {xs : List V} {ts : List (List Str)}, LsAt H xs ts → LsAt H' xs ts
  | [], [], _ => trivial
  | _ :: _, _ :: _, ⟨⟨a, e, h⟩, r⟩ => ⟨⟨a, e, s _ _ h⟩, r.same s⟩
  | [], _ :: _, h => h.elim
  | _ :: _, [], h => h.elim
theorem words_at {ws : List Str} {A : List Int} (h : ws.map PySem.intText? = A.map some) {i : Nat} {w : Str} (hw : ws[i]? = some w) : ∃ n, A[i]? = some n ∧ PySem.intText? w = some n := by
  have e : (ws.map PySem.intText?)[i]? = (A.map some)[i]? := by rw [h]
  rw [List.getElem?_map, List.getElem?_map, hw] at e
  cases ea : A[i]? with
  | none => rw [ea] at e; cases e
  | some n => rw [ea] at e; exact ⟨n, rfl, Option.some.inj e⟩
theorem strs_at {ws : List Str} {i : Nat} {y : V} (h : (ws.map V.str)[i]? = some y) : ∃ w, ws[i]? = some w ∧ y = .str w := by
  rw [List.getElem?_map] at h
  cases e : ws[i]? with
  | none => rw [e] at h; cases h
  | some r => rw [e] at h; exact ⟨r, rfl, (Option.some.inj h).symm⟩
theorem LsAt.snoc {H : Hp} {a : Addr} {t : List Str} (h2 : H a = some (.lst (t.map V.str))) : ∀ {xs : List V} {ts : List (List Str)}, LsAt H xs ts → LsAt H (xs ++ [.ref a]) (ts ++ [t])
  | [], [], _ => ⟨⟨a, rfl, h2⟩, trivial⟩
  | _ :: _, _ :: _, ⟨h, r⟩ => ⟨h, r.snoc h2⟩
  | [], _ :: _, h => h.elim
  | _ :: _, [], h => h.elim
theorem LsAt.but {H H' : Hp} {D : Addr} (h0 : ∀ xs ts, LsAt H xs ts → True) (k : ∀ b o, b ≠ D → H b = some o → H' b = some o) : ∀ {xs : List V} {ts : List (List Str)}, (∀ a, V.ref a ∈ xs → a ≠ D) → LsAt H xs ts → LsAt H' xs ts
  | [], [], _, _ => trivial
  | _ :: _, _ :: _, n, ⟨⟨a, e, h⟩, r⟩ => ⟨⟨a, e, k a _ (n a (by rw [e]; exact List.mem_cons_self)) h⟩, r.but h0 k fun b hb => n b (List.mem_cons_of_mem _ hb)⟩
  | [], _ :: _, _, h => h.elim
  | _ :: _, [], _, h => h.elim
section
variable {P : Program} {w : World} {K : PySem.W.Frag} {mg : Str → Option Value} {base : Heap}
def spRo : Sp := fun vs H Q _ => vs = [] ∧ ∀ H' p, Same H H' → H' p = some (.lst (ROWS.map fun r => V.str r.1)) → Q (.ref p) H'
theorem ok_ro {f : Addr} {fd : FuncData} {k : Nat} (F : Fun K "_law_rows" "_law_rows" sRo f fd) : FnOk P w K mg base CX0 (k + 1) f fd [] spRo := by
  refine F.ok scRo (fun vs H Q E h => ?_) (fun cdv A outer s H vs Q E hr h => ?_)
  · obtain ⟨rfl, _⟩ := h
    rfl
  · obtain ⟨rfl, hq⟩ := h
    refine ⟨_, (pss_cons (ps_set (i := 0) scRo.nd rfl (.inl rfl) (pe_lst (pa_cons pe_str (pa_cons pe_str (pa_cons pe_str (pa_cons pe_str (pa_cons pe_str (pa_cons pe_str (pa_cons pe_str pa_nil)))))))))
      (pss_cons (ps_set (i := 0) scRo.nd rfl (.inl rfl) (pe_op op_cat (pv 0) (pe_lst (pa_cons pe_str (pa_cons pe_str (pa_cons pe_str (pa_cons pe_str pa_nil)))))))
      (pss_cons (ps_set (i := 0) scRo.nd rfl (.inl rfl) (pe_op op_cat (pv 0) (pe_lst (pa_cons pe_str (pa_cons pe_str (pa_cons pe_str pa_nil))))))
      (pss_cons (ps_set (i := 0) scRo.nd rfl (.inl rfl) (pe_op op_cat (pv 0) (pe_lst (pa_cons pe_str (pa_cons pe_str (pa_cons pe_str pa_nil))))))
      (pss_cons (ps_set (i := 0) scRo.nd rfl (.inl rfl) (pe_op op_cat (pv 0) (pe_lst (pa_cons pe_str (pa_cons pe_str (pa_cons pe_str pa_nil))))))
      (pss_cons (ps_set (i := 0) scRo.nd rfl (.inl rfl) (pe_op op_cat (pv 0) (pe_lst (pa_cons pe_str (pa_cons pe_str (pa_cons pe_str pa_nil))))))
      (pss_one (ps_ret (pe_op op_cat (pv 0) (pe_lst (pa_cons pe_str pa_nil))))))))))), ?_⟩
    refine ⟨by show 7 ≤ sizeLine; decide, fun p0 n0 => ?_⟩
    have s0 := same_new (o := .lst ([.str "||", .str "5||5", .str "5 5 5||5", .str "1 2 3||1 3", .str "1 3 1||1 3 1", .str "3 1 3||3 1 3", .str "1 1 2 2 1 1||1 2 1"] : List V)) n0
    have h0 := upd_same (H := H) (a := p0) (o := .lst ([.str "||", .str "5||5", .str "5 5 5||5", .str "1 2 3||1 3", .str "1 3 1||1 3 1", .str "3 1 3||3 1 3", .str "1 1 2 2 1 1||1 2 1"] : List V))
    generalize upd H p0 (.lst ([.str "||", .str "5||5", .str "5 5 5||5", .str "1 2 3||1 3", .str "1 3 1||1 3 1", .str "3 1 3||3 1 3", .str "1 1 2 2 1 1||1 2 1"] : List V)) = H0 at s0 h0 ⊢
    refine ⟨.ref p0, rfl, by show 4 ≤ sizeLine; decide, fun l1 m1 => ?_⟩
    have t1 := same_new (o := .lst ([.str "0 4 1 5|1:4|0 5", .str "0 4 0 4|0:4|0 4", .str "0 4 0 4 0|0:4|0 4 0", .str "4 0 4 0 4 0|0:4 0:4|4 0"] : List V)) m1
    have e1 := upd_same (H := H0) (a := l1) (o := .lst ([.str "0 4 1 5|1:4|0 5", .str "0 4 0 4|0:4|0 4", .str "0 4 0 4 0|0:4|0 4 0", .str "4 0 4 0 4 0|0:4 0:4|4 0"] : List V))
    generalize upd H0 l1 (.lst ([.str "0 4 1 5|1:4|0 5", .str "0 4 0 4|0:4|0 4", .str "0 4 0 4 0|0:4|0 4 0", .str "4 0 4 0 4 0|0:4 0:4|4 0"] : List V)) = G1 at t1 e1 ⊢
    refine ⟨p0, l1, _, _, rfl, rfl, t1 _ _ h0, e1, by show 7 + 4 ≤ sizeLine; decide, fun p1 n1 => ?_⟩
    have s1 := s0.trans (t1.trans (same_new (o := .lst (([.str "||", .str "5||5", .str "5 5 5||5", .str "1 2 3||1 3", .str "1 3 1||1 3 1", .str "3 1 3||3 1 3", .str "1 1 2 2 1 1||1 2 1"] : List V) ++ ([.str "0 4 1 5|1:4|0 5", .str "0 4 0 4|0:4|0 4", .str "0 4 0 4 0|0:4|0 4 0", .str "4 0 4 0 4 0|0:4 0:4|4 0"] : List V))) n1))
    have h1 := upd_same (H := G1) (a := p1) (o := .lst (([.str "||", .str "5||5", .str "5 5 5||5", .str "1 2 3||1 3", .str "1 3 1||1 3 1", .str "3 1 3||3 1 3", .str "1 1 2 2 1 1||1 2 1"] : List V) ++ ([.str "0 4 1 5|1:4|0 5", .str "0 4 0 4|0:4|0 4", .str "0 4 0 4 0|0:4|0 4 0", .str "4 0 4 0 4 0|0:4 0:4|4 0"] : List V)))
    generalize upd G1 p1 (.lst (([.str "||", .str "5||5", .str "5 5 5||5", .str "1 2 3||1 3", .str "1 3 1||1 3 1", .str "3 1 3||3 1 3", .str "1 1 2 2 1 1||1 2 1"] : List V) ++ ([.str "0 4 1 5|1:4|0 5", .str "0 4 0 4|0:4|0 4", .str "0 4 0 4 0|0:4|0 4 0", .str "4 0 4 0 4 0|0:4 0:4|4 0"] : List V))) = H1 at s1 h1 ⊢
    refine ⟨.ref p1, rfl, by show 3 ≤ sizeLine; decide, fun l2 m2 => ?_⟩
    have t2 := same_new (o := .lst ([.str "0 1 -1 2 -2||0 1 -1 2 -2", .str "0 1 -1 2 -2 3 -3||0 1 -1 2 -2 3 -3", .str "3 -3 2 -2 1||3 -3 2 -2 1"] : List V)) m2
    have e2 := upd_same (H := H1) (a := l2) (o := .lst ([.str "0 1 -1 2 -2||0 1 -1 2 -2", .str "0 1 -1 2 -2 3 -3||0 1 -1 2 -2 3 -3", .str "3 -3 2 -2 1||3 -3 2 -2 1"] : List V))
    generalize upd H1 l2 (.lst ([.str "0 1 -1 2 -2||0 1 -1 2 -2", .str "0 1 -1 2 -2 3 -3||0 1 -1 2 -2 3 -3", .str "3 -3 2 -2 1||3 -3 2 -2 1"] : List V)) = G2 at t2 e2 ⊢
    refine ⟨p1, l2, _, _, rfl, rfl, t2 _ _ h1, e2, by show 11 + 3 ≤ sizeLine; decide, fun p2 n2 => ?_⟩
    have s2 := s1.trans (t2.trans (same_new (o := .lst ((([.str "||", .str "5||5", .str "5 5 5||5", .str "1 2 3||1 3", .str "1 3 1||1 3 1", .str "3 1 3||3 1 3", .str "1 1 2 2 1 1||1 2 1"] : List V) ++ ([.str "0 4 1 5|1:4|0 5", .str "0 4 0 4|0:4|0 4", .str "0 4 0 4 0|0:4|0 4 0", .str "4 0 4 0 4 0|0:4 0:4|4 0"] : List V)) ++ ([.str "0 1 -1 2 -2||0 1 -1 2 -2", .str "0 1 -1 2 -2 3 -3||0 1 -1 2 -2 3 -3", .str "3 -3 2 -2 1||3 -3 2 -2 1"] : List V))) n2))
    have h2 := upd_same (H := G2) (a := p2) (o := .lst ((([.str "||", .str "5||5", .str "5 5 5||5", .str "1 2 3||1 3", .str "1 3 1||1 3 1", .str "3 1 3||3 1 3", .str "1 1 2 2 1 1||1 2 1"] : List V) ++ ([.str "0 4 1 5|1:4|0 5", .str "0 4 0 4|0:4|0 4", .str "0 4 0 4 0|0:4|0 4 0", .str "4 0 4 0 4 0|0:4 0:4|4 0"] : List V)) ++ ([.str "0 1 -1 2 -2||0 1 -1 2 -2", .str "0 1 -1 2 -2 3 -3||0 1 -1 2 -2 3 -3", .str "3 -3 2 -2 1||3 -3 2 -2 1"] : List V)))
    generalize upd G2 p2 (.lst ((([.str "||", .str "5||5", .str "5 5 5||5", .str "1 2 3||1 3", .str "1 3 1||1 3 1", .str "3 1 3||3 1 3", .str "1 1 2 2 1 1||1 2 1"] : List V) ++ ([.str "0 4 1 5|1:4|0 5", .str "0 4 0 4|0:4|0 4", .str "0 4 0 4 0|0:4|0 4 0", .str "4 0 4 0 4 0|0:4 0:4|4 0"] : List V)) ++ ([.str "0 1 -1 2 -2||0 1 -1 2 -2", .str "0 1 -1 2 -2 3 -3||0 1 -1 2 -2 3 -3", .str "3 -3 2 -2 1||3 -3 2 -2 1"] : List V))) = H2 at s2 h2 ⊢
    refine ⟨.ref p2, rfl, by show 3 ≤ sizeLine; decide, fun l3 m3 => ?_⟩
    have t3 := same_new (o := .lst ([.str "1 2 -2 2 1||1 2 -2 2 1", .str "0 9 1 8 2 7||0 9 1 8 2 7", .str "0 9 2 5 3 7 1 8|2:7 3:5|0 9 1 8"] : List V)) m3
    have e3 := upd_same (H := H2) (a := l3) (o := .lst ([.str "1 2 -2 2 1||1 2 -2 2 1", .str "0 9 1 8 2 7||0 9 1 8 2 7", .str "0 9 2 5 3 7 1 8|2:7 3:5|0 9 1 8"] : List V))
    generalize upd H2 l3 (.lst ([.str "1 2 -2 2 1||1 2 -2 2 1", .str "0 9 1 8 2 7||0 9 1 8 2 7", .str "0 9 2 5 3 7 1 8|2:7 3:5|0 9 1 8"] : List V)) = G3 at t3 e3 ⊢
    refine ⟨p2, l3, _, _, rfl, rfl, t3 _ _ h2, e3, by show 14 + 3 ≤ sizeLine; decide, fun p3 n3 => ?_⟩
    have s3 := s2.trans (t3.trans (same_new (o := .lst (((([.str "||", .str "5||5", .str "5 5 5||5", .str "1 2 3||1 3", .str "1 3 1||1 3 1", .str "3 1 3||3 1 3", .str "1 1 2 2 1 1||1 2 1"] : List V) ++ ([.str "0 4 1 5|1:4|0 5", .str "0 4 0 4|0:4|0 4", .str "0 4 0 4 0|0:4|0 4 0", .str "4 0 4 0 4 0|0:4 0:4|4 0"] : List V)) ++ ([.str "0 1 -1 2 -2||0 1 -1 2 -2", .str "0 1 -1 2 -2 3 -3||0 1 -1 2 -2 3 -3", .str "3 -3 2 -2 1||3 -3 2 -2 1"] : List V)) ++ ([.str "1 2 -2 2 1||1 2 -2 2 1", .str "0 9 1 8 2 7||0 9 1 8 2 7", .str "0 9 2 5 3 7 1 8|2:7 3:5|0 9 1 8"] : List V))) n3))
    have h3 := upd_same (H := G3) (a := p3) (o := .lst (((([.str "||", .str "5||5", .str "5 5 5||5", .str "1 2 3||1 3", .str "1 3 1||1 3 1", .str "3 1 3||3 1 3", .str "1 1 2 2 1 1||1 2 1"] : List V) ++ ([.str "0 4 1 5|1:4|0 5", .str "0 4 0 4|0:4|0 4", .str "0 4 0 4 0|0:4|0 4 0", .str "4 0 4 0 4 0|0:4 0:4|4 0"] : List V)) ++ ([.str "0 1 -1 2 -2||0 1 -1 2 -2", .str "0 1 -1 2 -2 3 -3||0 1 -1 2 -2 3 -3", .str "3 -3 2 -2 1||3 -3 2 -2 1"] : List V)) ++ ([.str "1 2 -2 2 1||1 2 -2 2 1", .str "0 9 1 8 2 7||0 9 1 8 2 7", .str "0 9 2 5 3 7 1 8|2:7 3:5|0 9 1 8"] : List V)))
    generalize upd G3 p3 (.lst (((([.str "||", .str "5||5", .str "5 5 5||5", .str "1 2 3||1 3", .str "1 3 1||1 3 1", .str "3 1 3||3 1 3", .str "1 1 2 2 1 1||1 2 1"] : List V) ++ ([.str "0 4 1 5|1:4|0 5", .str "0 4 0 4|0:4|0 4", .str "0 4 0 4 0|0:4|0 4 0", .str "4 0 4 0 4 0|0:4 0:4|4 0"] : List V)) ++ ([.str "0 1 -1 2 -2||0 1 -1 2 -2", .str "0 1 -1 2 -2 3 -3||0 1 -1 2 -2 3 -3", .str "3 -3 2 -2 1||3 -3 2 -2 1"] : List V)) ++ ([.str "1 2 -2 2 1||1 2 -2 2 1", .str "0 9 1 8 2 7||0 9 1 8 2 7", .str "0 9 2 5 3 7 1 8|2:7 3:5|0 9 1 8"] : List V))) = H3 at s3 h3 ⊢
    refine ⟨.ref p3, rfl, by show 3 ≤ sizeLine; decide, fun l4 m4 => ?_⟩
    have t4 := same_new (o := .lst ([.str "0 5 3 8 6 9|3:5 6:8|0 9", .str "0 9 3 5 4 6 2 10|2:9 3:6 4:5|0 10", .str "7 7 -7 -7 7||7 -7 7"] : List V)) m4
    have e4 := upd_same (H := H3) (a := l4) (o := .lst ([.str "0 5 3 8 6 9|3:5 6:8|0 9", .str "0 9 3 5 4 6 2 10|2:9 3:6 4:5|0 10", .str "7 7 -7 -7 7||7 -7 7"] : List V))
    generalize upd H3 l4 (.lst ([.str "0 5 3 8 6 9|3:5 6:8|0 9", .str "0 9 3 5 4 6 2 10|2:9 3:6 4:5|0 10", .str "7 7 -7 -7 7||7 -7 7"] : List V)) = G4 at t4 e4 ⊢
    refine ⟨p3, l4, _, _, rfl, rfl, t4 _ _ h3, e4, by show 17 + 3 ≤ sizeLine; decide, fun p4 n4 => ?_⟩
    have s4 := s3.trans (t4.trans (same_new (o := .lst ((((([.str "||", .str "5||5", .str "5 5 5||5", .str "1 2 3||1 3", .str "1 3 1||1 3 1", .str "3 1 3||3 1 3", .str "1 1 2 2 1 1||1 2 1"] : List V) ++ ([.str "0 4 1 5|1:4|0 5", .str "0 4 0 4|0:4|0 4", .str "0 4 0 4 0|0:4|0 4 0", .str "4 0 4 0 4 0|0:4 0:4|4 0"] : List V)) ++ ([.str "0 1 -1 2 -2||0 1 -1 2 -2", .str "0 1 -1 2 -2 3 -3||0 1 -1 2 -2 3 -3", .str "3 -3 2 -2 1||3 -3 2 -2 1"] : List V)) ++ ([.str "1 2 -2 2 1||1 2 -2 2 1", .str "0 9 1 8 2 7||0 9 1 8 2 7", .str "0 9 2 5 3 7 1 8|2:7 3:5|0 9 1 8"] : List V)) ++ ([.str "0 5 3 8 6 9|3:5 6:8|0 9", .str "0 9 3 5 4 6 2 10|2:9 3:6 4:5|0 10", .str "7 7 -7 -7 7||7 -7 7"] : List V))) n4))
    have h4 := upd_same (H := G4) (a := p4) (o := .lst ((((([.str "||", .str "5||5", .str "5 5 5||5", .str "1 2 3||1 3", .str "1 3 1||1 3 1", .str "3 1 3||3 1 3", .str "1 1 2 2 1 1||1 2 1"] : List V) ++ ([.str "0 4 1 5|1:4|0 5", .str "0 4 0 4|0:4|0 4", .str "0 4 0 4 0|0:4|0 4 0", .str "4 0 4 0 4 0|0:4 0:4|4 0"] : List V)) ++ ([.str "0 1 -1 2 -2||0 1 -1 2 -2", .str "0 1 -1 2 -2 3 -3||0 1 -1 2 -2 3 -3", .str "3 -3 2 -2 1||3 -3 2 -2 1"] : List V)) ++ ([.str "1 2 -2 2 1||1 2 -2 2 1", .str "0 9 1 8 2 7||0 9 1 8 2 7", .str "0 9 2 5 3 7 1 8|2:7 3:5|0 9 1 8"] : List V)) ++ ([.str "0 5 3 8 6 9|3:5 6:8|0 9", .str "0 9 3 5 4 6 2 10|2:9 3:6 4:5|0 10", .str "7 7 -7 -7 7||7 -7 7"] : List V)))
    generalize upd G4 p4 (.lst ((((([.str "||", .str "5||5", .str "5 5 5||5", .str "1 2 3||1 3", .str "1 3 1||1 3 1", .str "3 1 3||3 1 3", .str "1 1 2 2 1 1||1 2 1"] : List V) ++ ([.str "0 4 1 5|1:4|0 5", .str "0 4 0 4|0:4|0 4", .str "0 4 0 4 0|0:4|0 4 0", .str "4 0 4 0 4 0|0:4 0:4|4 0"] : List V)) ++ ([.str "0 1 -1 2 -2||0 1 -1 2 -2", .str "0 1 -1 2 -2 3 -3||0 1 -1 2 -2 3 -3", .str "3 -3 2 -2 1||3 -3 2 -2 1"] : List V)) ++ ([.str "1 2 -2 2 1||1 2 -2 2 1", .str "0 9 1 8 2 7||0 9 1 8 2 7", .str "0 9 2 5 3 7 1 8|2:7 3:5|0 9 1 8"] : List V)) ++ ([.str "0 5 3 8 6 9|3:5 6:8|0 9", .str "0 9 3 5 4 6 2 10|2:9 3:6 4:5|0 10", .str "7 7 -7 -7 7||7 -7 7"] : List V))) = H4 at s4 h4 ⊢
    refine ⟨.ref p4, rfl, by show 3 ≤ sizeLine; decide, fun l5 m5 => ?_⟩
    have t5 := same_new (o := .lst ([.str "0 2 1 3 2 4 3 5|1:2 2:3 3:4|0 5", .str "0 3 1 2||0 3 1 2", .str "0 3 1 2 1|1:2|0 3 1"] : List V)) m5
    have e5 := upd_same (H := H4) (a := l5) (o := .lst ([.str "0 2 1 3 2 4 3 5|1:2 2:3 3:4|0 5", .str "0 3 1 2||0 3 1 2", .str "0 3 1 2 1|1:2|0 3 1"] : List V))
    generalize upd H4 l5 (.lst ([.str "0 2 1 3 2 4 3 5|1:2 2:3 3:4|0 5", .str "0 3 1 2||0 3 1 2", .str "0 3 1 2 1|1:2|0 3 1"] : List V)) = G5 at t5 e5 ⊢
    refine ⟨p4, l5, _, _, rfl, rfl, t5 _ _ h4, e5, by show 20 + 3 ≤ sizeLine; decide, fun p5 n5 => ?_⟩
    have s5 := s4.trans (t5.trans (same_new (o := .lst (((((([.str "||", .str "5||5", .str "5 5 5||5", .str "1 2 3||1 3", .str "1 3 1||1 3 1", .str "3 1 3||3 1 3", .str "1 1 2 2 1 1||1 2 1"] : List V) ++ ([.str "0 4 1 5|1:4|0 5", .str "0 4 0 4|0:4|0 4", .str "0 4 0 4 0|0:4|0 4 0", .str "4 0 4 0 4 0|0:4 0:4|4 0"] : List V)) ++ ([.str "0 1 -1 2 -2||0 1 -1 2 -2", .str "0 1 -1 2 -2 3 -3||0 1 -1 2 -2 3 -3", .str "3 -3 2 -2 1||3 -3 2 -2 1"] : List V)) ++ ([.str "1 2 -2 2 1||1 2 -2 2 1", .str "0 9 1 8 2 7||0 9 1 8 2 7", .str "0 9 2 5 3 7 1 8|2:7 3:5|0 9 1 8"] : List V)) ++ ([.str "0 5 3 8 6 9|3:5 6:8|0 9", .str "0 9 3 5 4 6 2 10|2:9 3:6 4:5|0 10", .str "7 7 -7 -7 7||7 -7 7"] : List V)) ++ ([.str "0 2 1 3 2 4 3 5|1:2 2:3 3:4|0 5", .str "0 3 1 2||0 3 1 2", .str "0 3 1 2 1|1:2|0 3 1"] : List V))) n5))
    have h5 := upd_same (H := G5) (a := p5) (o := .lst (((((([.str "||", .str "5||5", .str "5 5 5||5", .str "1 2 3||1 3", .str "1 3 1||1 3 1", .str "3 1 3||3 1 3", .str "1 1 2 2 1 1||1 2 1"] : List V) ++ ([.str "0 4 1 5|1:4|0 5", .str "0 4 0 4|0:4|0 4", .str "0 4 0 4 0|0:4|0 4 0", .str "4 0 4 0 4 0|0:4 0:4|4 0"] : List V)) ++ ([.str "0 1 -1 2 -2||0 1 -1 2 -2", .str "0 1 -1 2 -2 3 -3||0 1 -1 2 -2 3 -3", .str "3 -3 2 -2 1||3 -3 2 -2 1"] : List V)) ++ ([.str "1 2 -2 2 1||1 2 -2 2 1", .str "0 9 1 8 2 7||0 9 1 8 2 7", .str "0 9 2 5 3 7 1 8|2:7 3:5|0 9 1 8"] : List V)) ++ ([.str "0 5 3 8 6 9|3:5 6:8|0 9", .str "0 9 3 5 4 6 2 10|2:9 3:6 4:5|0 10", .str "7 7 -7 -7 7||7 -7 7"] : List V)) ++ ([.str "0 2 1 3 2 4 3 5|1:2 2:3 3:4|0 5", .str "0 3 1 2||0 3 1 2", .str "0 3 1 2 1|1:2|0 3 1"] : List V)))
    generalize upd G5 p5 (.lst (((((([.str "||", .str "5||5", .str "5 5 5||5", .str "1 2 3||1 3", .str "1 3 1||1 3 1", .str "3 1 3||3 1 3", .str "1 1 2 2 1 1||1 2 1"] : List V) ++ ([.str "0 4 1 5|1:4|0 5", .str "0 4 0 4|0:4|0 4", .str "0 4 0 4 0|0:4|0 4 0", .str "4 0 4 0 4 0|0:4 0:4|4 0"] : List V)) ++ ([.str "0 1 -1 2 -2||0 1 -1 2 -2", .str "0 1 -1 2 -2 3 -3||0 1 -1 2 -2 3 -3", .str "3 -3 2 -2 1||3 -3 2 -2 1"] : List V)) ++ ([.str "1 2 -2 2 1||1 2 -2 2 1", .str "0 9 1 8 2 7||0 9 1 8 2 7", .str "0 9 2 5 3 7 1 8|2:7 3:5|0 9 1 8"] : List V)) ++ ([.str "0 5 3 8 6 9|3:5 6:8|0 9", .str "0 9 3 5 4 6 2 10|2:9 3:6 4:5|0 10", .str "7 7 -7 -7 7||7 -7 7"] : List V)) ++ ([.str "0 2 1 3 2 4 3 5|1:2 2:3 3:4|0 5", .str "0 3 1 2||0 3 1 2", .str "0 3 1 2 1|1:2|0 3 1"] : List V))) = H5 at s5 h5 ⊢
    refine ⟨.ref p5, rfl, by show 1 ≤ sizeLine; decide, fun l6 m6 => ?_⟩
    have t6 := same_new (o := .lst ([.str "0 3 1 2 0|1:2|0 3 0"] : List V)) m6
    have e6 := upd_same (H := H5) (a := l6) (o := .lst ([.str "0 3 1 2 0|1:2|0 3 0"] : List V))
    generalize upd H5 l6 (.lst ([.str "0 3 1 2 0|1:2|0 3 0"] : List V)) = G6 at t6 e6 ⊢
    refine ⟨p5, l6, _, _, rfl, rfl, t6 _ _ h5, e6, by show 23 + 1 ≤ sizeLine; decide, fun p6 n6 => ?_⟩
    exact hq _ p6 (s5.trans (t6.trans (same_new n6))) (by rw [upd_same]; rfl)
def spMv : Sp := fun vs H Q _ => ∃ (s : Str) (far : Int) (A : List Int) (C : List (Int × Int)) (B : List Int), vs = [.str s, .int far] ∧ RowOk s A C B ∧
  ∀ H' p q1 q2 q3 ys, Same H H' → H' p = some (.tup [.ref q1, .ref q2, .ref q3]) → H' q1 = some (.lst ((A.map (· + far)).map V.int)) → H' q2 = some (.tup ys) → PairsAt H' ys (C.map (mv far)) → H' q3 = some (.tup ((B.map (· + far)).map V.int)) → Q (.ref p) H'
def teP : TE := tIf (tTest (tOp rNe (tVar 7) (tC (V.str "")))) (tM1 (fun x xs H Q => ∃ a b, x = .str a ∧ xs = [.str b] ∧ (b.length == 0) = false ∧ a.length + 2 ≤ sizeLine ∧ rNewStrs (Txt.split a b) H Q) (tVar 7) (tC (V.str " "))) (tLst tNil)
def teW : TE := tOp (rI0 fun i j => V.int (i + j)) (tCB (fun xs H Q => ∃ a n, xs = [.str a] ∧ PySem.intText? a = some n ∧ a.length ≤ 640 ∧ Q (.int n) H) (tCons (tVar 4) tNil)) (tVar 1)
theorem ok_mv {f : Addr} {fd : FuncData} {k : Nat} (F : Fun K "_law_moved" "_law_moved" sMv f fd) (mi : mg "int" = none) (mt : mg "tuple" = none) : FnOk P w K mg base CX0 (k + 1) f fd ["row", "far"] spMv := by
  refine F.ok scMv (fun vs H Q E h => ?_) (fun cdv A outer s H vs Q E hr h => ?_)
  · obtain ⟨s, far, A, C, B, rfl, _⟩ := h
    rfl
  · obtain ⟨rw_, far, AA, CC, BB, rfl, row, hq⟩ := h
    refine ⟨_, (pss_cons (ps_setLc (i := 2) (own := [("part", 7)]) (g := gName 7)  (te := teP) rfl scMv.nd rfl rfl (sw_true rfl rfl rfl (by decide +kernel)) (pi_list (pe_split (pv 0) pe_str)) (blkOk_by (own := [("part", 7)]) (N := ["row", "far", "parts", "cycles", "word", "ends", "load", "part"]) (sc := defScope sMv) (by decide +kernel)) (fun _ _ _ _ _ => (pg_name (i := 7) scMv.nd rfl (Or.inl rfl) (Or.inr rfl))) (fun _ _ _ _ _ => pts_nil) (fun _ _ _ _ _ => (pe_ifExp (pt_cmpR op_ne (pv 7) pe_str (nomark _)) (pe_split (pv 7) pe_str) (pe_lst pa_nil))))
      (pss_cons (ps_set (i := 3) scMv.nd rfl (.inl rfl) (pe_lst pa_nil))
      (pss_cons (ps_for PassesOwn.never rfl (pi_list (pe_ix ix_list (pv 2) pe_int (fun _ _ => rfl))) (pg_name (i := 4) scMv.nd rfl (.inl rfl))
      (pss_cons (ps_set (i := 5) scMv.nd rfl (.inl rfl) (pe_split (pv 4) pe_str))
      (pss_one (ps_expr (pe_bm PySem.F.plainAttrs_list PySem.F.slot_list_append PySem.F.type_list_append mt_append (pv 3) (pa_cons (pe_tup (pa_cons (pe_op op_add (pe_callTy call_int_str (by rfl) mi (by decide +kernel) (pa_cons (pe_ix ix_list (pv 5) pe_int (fun _ _ => rfl)) pa_nil)) (pv 1)) (pa_cons (pe_op op_add (pe_callTy call_int_str (by rfl) mi (by decide +kernel) (pa_cons (pe_ix ix_list (pv 5) pe_int (fun _ _ => rfl)) pa_nil)) (pv 1)) pa_nil))) pa_nil))))))
      (pss_cons (ps_setLc (i := 6) (own := [("word", 4)]) (g := gName 4)  (te := teW) rfl scMv.nd rfl rfl (sw_true rfl rfl rfl (by decide +kernel)) (pi_list (pe_ix ix_list (pv 2) pe_int (fun _ _ => rfl))) (blkOk_by (own := [("word", 4)]) (N := ["row", "far", "parts", "cycles", "word", "ends", "load", "part"]) (sc := defScope sMv) (by decide +kernel)) (fun _ _ _ _ _ => (pg_name (i := 4) scMv.nd rfl (Or.inl rfl) (Or.inr rfl))) (fun _ _ _ _ _ => pts_nil) (fun _ _ _ _ _ => (pe_op op_add (pe_callTy call_int_str (by rfl) mi (by decide +kernel) (pa_cons (pv 4) pa_nil)) (pv 1))))
      (pss_one (ps_ret (pe_tup (pa_cons (pv 6) (pa_cons (pe_callTy call_tuple_of (by rfl) mt (by decide +kernel) (pa_cons (pv 3) pa_nil)) (pa_cons (pe_callTy call_tuple_of (by rfl) mt (by decide +kernel) (pa_cons (pe_lc (own := [("word", 4)]) (g := gName 4) (tt := tYes) (te := teW) rfl scMv.nd (pi_list (pe_ix ix_list (pv 2) pe_int (fun _ _ => rfl))) (blkOk_by (own := [("word", 4)]) (N := ["row", "far", "parts", "cycles", "word", "ends", "load", "part"]) (sc := defScope sMv) (by decide +kernel)) (fun _ _ _ _ _ => (pg_name (i := 4) scMv.nd rfl (Or.inl rfl) (Or.inr rfl))) (fun _ _ _ _ _ => pts_nil) (fun _ _ _ _ _ => (pe_op op_add (pe_callTy call_int_str (by rfl) mi (by decide +kernel) (pa_cons (pv 4) pa_nil)) (pv 1)))) pa_nil)) pa_nil)))))))))), ?_⟩
    have l2s : 2 ≤ sizeLine := by decide
    have l3s : 3 ≤ sizeLine := by decide
    have big : ∀ {n : Nat}, n ≤ 100 → n + 2 ≤ sizeLine := fun h => Nat.le_trans (show _ ≤ 3000 by omega) (by decide)
    obtain ⟨⟨p0, p1, p2, esp, ⟨lp0, lp1, lp2⟩, ⟨ha, wa⟩, ⟨hc, wc⟩, ⟨hb, wb⟩⟩, slen, _, _, lA, lC, lB⟩ := row
    have lwa : (wds p0).length = AA.length := by have := congrArg List.length ha; simpa using this
    have lwc : (wds p1).length = CC.length := by have := congrArg List.length hc; simpa using this
    have lwb : (wds p2).length = BB.length := by have := congrArg List.length hb; simpa using this
    have lps : ∀ p ∈ [p0, p1, p2], p.length ≤ 100 := fun p hp => by
      simp only [List.mem_cons, List.not_mem_nil, or_false] at hp
      rcases hp with rfl | rfl | rfl <;> assumption
    refine ⟨.str rw_, rfl, ⟨_, rfl⟩, rw_, "|", rfl, rfl, by decide +kernel, big slen, fun S nS => ?_⟩
    rw [esp]
    have s1 := same_new (o := .lst ([p0, p1, p2].map V.str)) nS
    have e1 := upd_same (H := H) (a := S) (o := .lst ([p0, p1, p2].map V.str))
    generalize upd H S (.lst ([p0, p1, p2].map V.str)) = H1 at s1 e1 ⊢
    refine ⟨S, rfl, ⟨_, SqL.of e1⟩, fun D nD => ?_⟩
    refine lc_list (K := K) (a := S) (xs := [p0, p1, p2].map V.str) (fun i Hz => Same H1 Hz ∧ ∃ acc, Hz D = some (.lst acc) ∧ LsAt Hz acc (([p0, p1, p2].take i).map wds) ∧ ∀ a, V.ref a ∈ acc → a ≠ D) ⟨same_new nD, [], upd_same, trivial, fun a h => (List.not_mem_nil h).elim⟩ (fun i Hz _ z => SqL.of (z.1 _ _ e1)) ?_ ?_
    · rintro i y Hz hy ⟨sz, acc, eD, la, nd⟩
      obtain ⟨p, hp, rfl⟩ := strs_at hy
      have hi : i < 3 := (List.getElem?_eq_some_iff.mp hp).1
      have plen := lps p (List.mem_of_getElem? hp)
      have fin : ∀ (l : Addr), Hz l = none → ∃ acc2, (upd Hz l (.lst ((wds p).map V.str))) D = some (.lst acc2) ∧ acc2.length < sizeLine ∧ (Same H1 (upd (upd Hz l (.lst ((wds p).map V.str))) D (.lst (acc2 ++ [.ref l]))) ∧ ∃ acc, (upd (upd Hz l (.lst ((wds p).map V.str))) D (.lst (acc2 ++ [.ref l]))) D = some (.lst acc) ∧ LsAt (upd (upd Hz l (.lst ((wds p).map V.str))) D (.lst (acc2 ++ [.ref l]))) acc (([p0, p1, p2].take (i + 1)).map wds) ∧ ∀ a, V.ref a ∈ acc → a ≠ D) := fun l nl => by
        have sl := same_new (o := .lst ((wds p).map V.str)) nl
        have nlD : l ≠ D := fun z => by rw [z, eD] at nl; cases nl
        have kk : ∀ b o, b ≠ D → (upd Hz l (.lst ((wds p).map V.str))) b = some o → (upd (upd Hz l (.lst ((wds p).map V.str))) D (.lst (acc ++ [.ref l]))) b = some o := fun b o n h => by rw [upd_ne n]; exact h
        have nd2 : ∀ a, V.ref a ∈ acc ++ [.ref l] → a ≠ D := fun a h => by
          rcases List.mem_append.mp h with z | z
          · exact nd a z
          · cases List.mem_singleton.mp z; exact nlD
        have al : acc.length = i := by
          have : ∀ {xs : List V} {ts : List (List Str)}, LsAt Hz xs ts → xs.length = ts.length := by
            intro xs
            induction xs with
            | nil => intro ts h; cases ts with
              | nil => rfl
              | cons _ _ => exact h.elim
            | cons x xs ih => intro ts h; cases ts with
              | nil => exact h.elim
              | cons t ts => exact congrArg (· + 1) (ih h.2)
          rw [this la, List.length_map, List.length_take]
          show min i 3 = i
          omega
        refine ⟨acc, sl _ _ eD, small3000 (by omega), same_again nD (sz.trans sl), acc ++ [.ref l], upd_same, ?_, nd2⟩
        rw [List.take_add_one, hp, List.map_append]
        exact LsAt.but (fun _ _ _ => trivial) kk nd2 (LsAt.snoc upd_same (la.same sl))
      refine ⟨rfl, iteT (B := True) ?_⟩
      refine ⟨.str p, rfl, rfl, _, rfl, ?_⟩
      by_cases e : p = ""
      · rw [decide_eq_true (show V.str p = V.str "" by rw [e])]
        refine iteF ⟨Nat.zero_le _, fun l nl => ?_⟩
        have ew : wds p = [] := by unfold wds; rw [if_pos e]
        have := fin l nl
        rw [ew] at this
        exact this
      · rw [decide_eq_false (show ¬ V.str p = V.str "" from fun z => e (V.str.inj z))]
        refine iteT ⟨.str p, rfl, ⟨_, rfl⟩, p, " ", rfl, rfl, by decide +kernel, big plen, fun l nl => ?_⟩
        have ew : wds p = Txt.split p " " := by unfold wds; rw [if_neg e]
        have := fin l nl
        rw [ew] at this
        exact this
    rintro H2 ⟨s2, acc, eD, la, _⟩
    obtain ⟨a0, a1, a2, rfl, h0, h1, h2⟩ : ∃ a0 a1 a2, acc = [.ref a0, .ref a1, .ref a2] ∧ H2 a0 = some (.lst ((wds p0).map V.str)) ∧ H2 a1 = some (.lst ((wds p1).map V.str)) ∧ H2 a2 = some (.lst ((wds p2).map V.str)) := by
      match acc, la with
      | [x, y, z], ⟨⟨a0, e0, g0⟩, ⟨a1, e1, g1⟩, ⟨a2, e2, g2⟩, _⟩ => exact ⟨a0, a1, a2, by rw [e0, e1, e2], g0, g1, g2⟩
      | [], h => exact h.elim
      | [_], h => exact h.2.elim
      | [_, _], h => exact h.2.2.elim
      | _ :: _ :: _ :: _ :: _, h => exact h.2.2.2.elim
    have s02 := s1.trans s2
    clear la s2 s1 e1 nD nS
    -- cycles
    refine ⟨Nat.zero_le _, fun C nC => ?_⟩
    have sC := same_new (o := .lst []) nC
    have nC1 : a1 ≠ C := fun z => by rw [z, nC] at h1; cases h1
    refine ⟨.ref D, rfl, D, _, 1, .ref a1, rfl, rfl, SqL.of (sC _ _ eD), at_of (j := 1) rfl rfl, a1, rfl, ⟨_, SqL.of (sC _ _ h1)⟩, for_list (K := K) (a := a1) (xs := (wds p1).map V.str) (fun i σ Hx => Same H2 Hx ∧ ∃ ys, Hx C = some (.lst ys) ∧ PairsAt Hx ys ((CC.take i).map (mv far)) ∧ ∃ r4 r5 r6 r7 : Option V, σ = [some (.str rw_), some (.int far), some (.ref D), some (.ref C), r4, r5, r6, r7]) ⟨sC, [], upd_same, trivial, _, _, _, _, rfl⟩ (fun i σ Hx _ g => SqL.of (g.1 _ _ h1)) ?_ ?_⟩
    · rintro i v σ Hx hv ⟨sx, ys, eC, pa, r4, r5, r6, r7, rfl⟩
      obtain ⟨w, hw, rfl⟩ := strs_at hv
      have hi := (List.getElem?_eq_some_iff.mp hw).1
      have wl := wc w (List.mem_of_getElem? hw)
      obtain ⟨c, hci, x, y, exy, ex, ey⟩ : ∃ c, CC[i]? = some c ∧ ∃ x y, Txt.split w ":" = [x, y] ∧ PySem.intText? x = some c.1 ∧ PySem.intText? y = some c.2 := by
        have e : ((wds p1).map (fun w => (Txt.split w ":").map PySem.intText?))[i]? = (CC.map fun c => [some c.1, some c.2])[i]? := by rw [hc]
        rw [List.getElem?_map, List.getElem?_map, hw] at e
        cases ea : CC[i]? with
        | none => rw [ea] at e; cases e
        | some c =>
          rw [ea] at e
          have e2 : (Txt.split w ":").map PySem.intText? = [some c.1, some c.2] := Option.some.inj e
          refine ⟨c, rfl, ?_⟩
          match hs : Txt.split w ":", e2 with
          | [x, y], e2 => exact ⟨x, y, rfl, (List.cons.inj e2).1, (List.cons.inj (List.cons.inj e2).2).1⟩
          | [], e2 => exact absurd (congrArg List.length e2) (by simp)
          | [_], e2 => exact absurd (congrArg List.length e2) (by simp)
          | _ :: _ :: _ :: _, e2 => exact absurd (congrArg List.length e2) (by simp)
      have lx := wl.2 x (by rw [exy]; simp)
      have ly := wl.2 y (by rw [exy]; simp)
      refine ⟨.str w, rfl, ⟨_, rfl⟩, w, ":", rfl, rfl, by decide +kernel, big wl.1, fun E nE => ?_⟩
      rw [exy]
      have sE := same_new (o := .lst ([x, y].map V.str)) nE
      have eE := upd_same (H := Hx) (a := E) (o := .lst ([x, y].map V.str))
      have eC2 := sE _ _ eC
      have pa2 := pa.same sE
      have sx2 := sx.trans sE
      generalize upd Hx E (.lst ([x, y].map V.str)) = H3 at sE eE eC2 pa2 sx2 ⊢
      refine ⟨.ref C, rfl, .inl ⟨rfl, _, SqL.of eC2⟩, .ref E, rfl, E, _, 0, .str x, rfl, rfl, SqL.of eE, at_of (j := 0) rfl rfl, x, c.1, rfl, ex, by omega, .int far, rfl, c.1, far, rfl, rfl, .ref E, rfl, E, _, 1, .str y, rfl, rfl, SqL.of eE, at_of (j := 1) rfl rfl, y, c.2, rfl, ey, by omega, .int far, rfl, c.2, far, rfl, rfl, l2s, fun q nq => ?_⟩
      have sq := same_new (o := .tup [.int (c.1 + far), .int (c.2 + far)]) nq
      have nqC : q ≠ C := fun z => by rw [z, eC2] at nq; cases nq
      have yl := pa2.length
      rw [List.length_map, List.length_take] at yl
      refine ⟨C, ys, .ref q, rfl, rfl, sq _ _ eC2, small3000 (by omega), same_again nC (sx2.trans sq), ys ++ [.ref q], upd_same, ?_, _, _, _, _, rfl⟩
      rw [List.take_add_one, hci, List.map_append]
      exact PairsAt.append (pairs_upd (sq _ _ eC2) (pa2.same sq)) ⟨⟨q, rfl, by rw [upd_ne nqC]; exact upd_same⟩, trivial⟩
    rintro σ H3 ⟨s3, ys, eC, pa, r4, r5, r6, r7, rfl⟩
    rw [List.length_map, lwc, List.take_length] at pa
    have s03 := s02.trans s3
    have eD3 := s3 _ _ eD
    have h03 := s3 _ _ h0
    have h23 := s3 _ _ h2
    clear s3 s02 eD h0 h1 h2 sC nC nC1
    -- load
    refine ⟨.ref D, rfl, D, _, 0, .ref a0, rfl, rfl, SqL.of eD3, at_of (j := 0) rfl rfl, a0, rfl, ⟨_, SqL.of h03⟩, fun D2 nD2 => ?_⟩
    refine lc_list (K := K) (a := a0) (xs := (wds p0).map V.str) (fun i Hz => Same H3 Hz ∧ Hz D2 = some (.lst (((AA.take i).map (· + far)).map V.int))) ⟨same_new nD2, upd_same⟩ (fun i Hz _ z => SqL.of (z.1 _ _ h03)) ?_ ?_
    · rintro i y Hz hy ⟨sz, e2⟩
      obtain ⟨w, hw, rfl⟩ := strs_at hy
      have hi := (List.getElem?_eq_some_iff.mp hw).1
      obtain ⟨n, hn, en⟩ := words_at ha hw
      have wl := wa w (List.mem_of_getElem? hw)
      refine ⟨rfl, iteT (B := True) ⟨.str w, rfl, w, n, rfl, en, by omega, .int far, rfl, n, far, rfl, rfl, _, e2, small3000 (by rw [List.length_map, List.length_map, List.length_take]; omega), same_again nD2 sz, ?_⟩⟩
      rw [upd_same, List.take_add_one, hn, List.map_append, List.map_append]
      rfl
    rintro H4 ⟨s4, e2⟩
    rw [List.length_map, lwa, List.take_length] at e2
    have s04 := s03.trans s4
    have eD4 := s4 _ _ eD3
    have h24 := s4 _ _ h23
    have eC4 := s4 _ _ eC
    have pa4 := pa.same s4
    clear s4 s03 eD3 h03 h23 eC pa nD2
    refine ⟨.ref D2, rfl, .ref C, rfl, C, ys, rfl, .inl ⟨SqL.of eC4, fun u nu => ?_⟩⟩
    have su := same_new (o := .tup ys) nu
    have eu := upd_same (H := H4) (a := u) (o := .tup ys)
    have s05 := s04.trans su
    have eD5 := su _ _ eD4
    have h25 := su _ _ h24
    have e25 := su _ _ e2
    have pa5 := pa4.same su
    generalize upd H4 u (.tup ys) = H5 at su eu s05 eD5 h25 e25 pa5 ⊢
    refine ⟨.ref D, rfl, D, _, 2, .ref a2, rfl, rfl, SqL.of eD5, at_of (j := 2) rfl rfl, a2, rfl, ⟨_, SqL.of h25⟩, fun D3 nD3 => ?_⟩
    refine lc_list (K := K) (a := a2) (xs := (wds p2).map V.str) (fun i Hz => Same H5 Hz ∧ Hz D3 = some (.lst (((BB.take i).map (· + far)).map V.int))) ⟨same_new nD3, upd_same⟩ (fun i Hz _ z => SqL.of (z.1 _ _ h25)) ?_ ?_
    · rintro i y Hz hy ⟨sz, e2⟩
      obtain ⟨w, hw, rfl⟩ := strs_at hy
      have hi := (List.getElem?_eq_some_iff.mp hw).1
      obtain ⟨n, hn, en⟩ := words_at hb hw
      have wl := wb w (List.mem_of_getElem? hw)
      refine ⟨rfl, iteT (B := True) ⟨.str w, rfl, w, n, rfl, en, by omega, .int far, rfl, n, far, rfl, rfl, _, e2, small3000 (by rw [List.length_map, List.length_map, List.length_take]; omega), same_again nD3 sz, ?_⟩⟩
      rw [upd_same, List.take_add_one, hn, List.map_append, List.map_append]
      rfl
    rintro H6 ⟨s6, e3⟩
    rw [List.length_map, lwb, List.take_length] at e3
    refine ⟨D3, _, rfl, .inl ⟨SqL.of e3, fun v nv => ⟨l3s, fun p np => ?_⟩⟩⟩
    have sv := same_new (o := .tup ((BB.map (· + far)).map V.int)) nv
    have ev := upd_same (H := H6) (a := v) (o := .tup ((BB.map (· + far)).map V.int))
    generalize upd H6 v (.tup ((BB.map (· + far)).map V.int)) = H7 at sv ev np ⊢
    have sp := same_new (o := .tup [.ref D2, .ref u, .ref v]) np
    have w := s6.trans (sv.trans sp)
    exact hq _ p D2 u v ys (s05.trans w) upd_same (w _ _ e25) (w _ _ eu) (pa5.same w) (sp _ _ ev)
end
end I1R

/-! loads repeated for ever: mathematics -/
namespace K20
open KM PM RM RN RC RE K9
/-! ### changes round the circle -/
def dif (a b : Option Bool) : Nat := match a, b with
  | some x, some y => if x = y then 0 else 1
  | _, _ => 0
/-- the number of letters that differ from the one before, round the circle -/
def cyc (l : List Bool) : Nat := cnt l + dif l.getLast? l.head?
theorem cf_app : ∀ (l : List Bool) (a : Bool) (m : List Bool), cf a (l ++ m) = cf a l + cfO (some ((a :: l).getLast (by simp))) m
  | [], a, m => by show cf a m = 0 + cf a m; omega
  | b :: l, a, m => by
    have ih := cf_app l b m
    show (if a = b then 0 else 1) + cf b (l ++ m) = (if a = b then 0 else 1) + cf b l + cfO (some ((a :: b :: l).getLast (by simp))) m
    rw [ih, List.getLast_cons (a := a) (l := b :: l) (by simp)]
    omega
theorem cnt_app (l m : List Bool) : cnt (l ++ m) = cnt l + dif l.getLast? m.head? + cnt m := by
  cases l with
  | nil => show cnt m = 0 + 0 + cnt m; omega
  | cons a l =>
    show cf a (l ++ m) = cf a l + _ + cnt m
    rw [cf_app]
    rw [List.getLast?_eq_some_getLast (l := a :: l) (by simp)]
    cases m with
    | nil => rfl
    | cons b m =>
      show cf a l + ((if (a :: l).getLast (by simp) = b then 0 else 1) + cf b m) = cf a l + (if (a :: l).getLast (by simp) = b then 0 else 1) + cf b m
      omega
theorem cyc_rot (l m : List Bool) : cyc (l ++ m) = cyc (m ++ l) := by
  unfold cyc
  rw [cnt_app, cnt_app]
  cases l with
  | nil => simp [dif, cnt]
  | cons a l =>
    cases m with
    | nil => simp [dif, cnt]
    | cons b m =>
      have e1 : ((a :: l) ++ (b :: m)).getLast? = (b :: m).getLast? := by rw [List.getLast?_append]; rw [List.getLast?_eq_some_getLast (l := b :: m) (by simp)]; rfl
      have e2 : ((b :: m) ++ (a :: l)).getLast? = (a :: l).getLast? := by rw [List.getLast?_append]; rw [List.getLast?_eq_some_getLast (l := a :: l) (by simp)]; rfl
      rw [e1, e2]
      show _ + dif _ (some b) + _ + dif _ (some a) = _ + dif _ (some a) + _ + dif _ (some b)
      omega
def rnd (lo hi : Int) (ns : List Int) : Nat := cyc (lets lo hi ns)
theorem lets_app (lo hi : Int) (l m : List Int) : lets lo hi (l ++ m) = lets lo hi l ++ lets lo hi m := List.filterMap_append
theorem rnd_rot (lo hi : Int) (l m : List Int) : rnd lo hi (l ++ m) = rnd lo hi (m ++ l) := by
  unfold rnd
  rw [lets_app, lets_app, cyc_rot]
theorem cnt_one : ∀ {l : List Bool} {b : Bool}, (∀ x ∈ l, x = b) → cnt l = 0
  | [], _, _ => rfl
  | [_], _, _ => rfl
  | x :: y :: l, b, h => by
    have ih := cnt_one (l := y :: l) (b := b) fun z hz => h z (List.mem_cons_of_mem _ hz)
    have e1 := h x (by simp)
    have e2 := h y (by simp)
    show (if x = y then 0 else 1) + cf y l = 0
    have ih : cf y l = 0 := ih
    rw [ih, e1, e2, if_pos rfl]
theorem cyc_one {l : List Bool} {b : Bool} (h : ∀ x ∈ l, x = b) : cyc l = 0 := by
  unfold cyc
  rw [cnt_one h]
  cases l with
  | nil => rfl
  | cons a l =>
    rw [List.getLast?_eq_some_getLast (l := a :: l) (by simp)]
    show 0 + (if (a :: l).getLast (by simp) = a then 0 else 1) = 0
    rw [h _ (List.getLast_mem (by simp)), h a (by simp), if_pos rfl]
theorem lets_mem {lo hi : Int} {ns : List Int} {b : Bool} (h : b ∈ lets lo hi ns) : ∃ x ∈ ns, lett lo hi x = some b := List.mem_filterMap.mp h
/-- a load that begins with a greatest reading, and the same behind it -/
theorem rnd_chg {lo hi M : Int} (h0 : lo < hi) {l : List Int} (hm : ∀ x ∈ l, x ≤ M) : rnd lo hi (M :: l) = chg (M :: l ++ [M]) lo hi := by
  unfold rnd chg
  rw [lets_app]
  rcases lett3 lo hi M h0 with ⟨_, e⟩ | ⟨_, e⟩ | ⟨h1, h2, e⟩
  · have el : lets lo hi [M] = [true] := by simp [lets, e]
    have ec : lets lo hi (M :: l) = true :: lets lo hi l := by simp [lets, e]
    rw [el, ec, cnt_app]
    unfold cyc
    rfl
  · have el : lets lo hi [M] = [false] := by simp [lets, e]
    have ec : lets lo hi (M :: l) = false :: lets lo hi l := by simp [lets, e]
    rw [el, ec, cnt_app]
    unfold cyc
    rfl
  · have el : lets lo hi [M] = [] := by simp [lets, e]
    have one : ∀ b ∈ lets lo hi (M :: l), b = true := fun b hb => by
      obtain ⟨x, hx, ex⟩ := lets_mem hb
      have : x ≤ M := by
        rcases List.mem_cons.mp hx with z | z
        · omega
        · exact hm x z
      rcases lett3 lo hi x h0 with ⟨_, e⟩ | ⟨_, e⟩ | ⟨_, _, e⟩ <;> rw [e] at ex
      · exact (Option.some.inj ex).symm
      · omega
      · cases ex
    rw [el, List.append_nil, cyc_one one, cnt_one one]
/-! ### the circle -/
/-- M is the greatest reading, at a for the first time -/
structure Top (ns : List Int) (a : Nat) (M : Int) : Prop where
  at' : ns[a]? = some M
  le : ∀ x ∈ ns, x ≤ M
  first : ∀ j x, j < a → ns[j]? = some x → x ≠ M
theorem Top.one {ns : List Int} {a b : Nat} {M N : Int} (h : Top ns a M) (g : Top ns b N) : a = b ∧ M = N := by
  have e : M = N := by
    have h1 := h.le N (List.mem_of_getElem? g.at')
    have h2 := g.le M (List.mem_of_getElem? h.at')
    omega
  subst e
  refine ⟨?_, rfl⟩
  rcases Nat.lt_trichotomy a b with z | z | z
  · exact absurd rfl (g.first a M z h.at')
  · exact z
  · exact absurd rfl (h.first b M z g.at')
def circ (ns : List Int) (a : Nat) : List Int := ns.drop a ++ ns.take (a + 1)
theorem circ_eq {ns : List Int} {a : Nat} {M : Int} (h : ns[a]? = some M) : circ ns a = M :: (ns.drop (a + 1) ++ ns.take a) ++ [M] := by
  obtain ⟨h1, h2⟩ := List.getElem?_eq_some_iff.mp h
  unfold circ
  rw [List.drop_eq_getElem_cons h1, h2, List.take_add_one, h]
  simp
theorem rnd_circ {lo hi M : Int} (h0 : lo < hi) {ns : List Int} {a : Nat} (t : Top ns a M) : rnd lo hi ns = chg (circ ns a) lo hi := by
  obtain ⟨h1, h2⟩ := List.getElem?_eq_some_iff.mp t.at'
  have e : rnd lo hi ns = rnd lo hi (M :: (ns.drop (a + 1) ++ ns.take a)) := by
    have := rnd_rot lo hi (ns.take a) (ns.drop a)
    rw [List.take_append_drop] at this
    rw [this, List.drop_eq_getElem_cons h1, h2]
    rfl
  rw [e, circ_eq t.at', rnd_chg h0]
  intro x hx
  rcases List.mem_append.mp hx with z | z
  · exact t.le x (List.mem_of_mem_drop z)
  · exact t.le x (List.mem_of_mem_take z)
theorem circ_mem {ns : List Int} {a : Nat} {x : Int} (h : x ∈ circ ns a) : x ∈ ns := by
  rcases List.mem_append.mp h with z | z
  · exact List.mem_of_mem_drop z
  · exact List.mem_of_mem_take z
theorem mem_circ {ns : List Int} {a : Nat} {x : Int} (h : x ∈ ns) : x ∈ circ ns a := by
  have e : ns.take a ++ ns.drop a = ns := List.take_append_drop _ _
  rw [← e] at h
  rcases List.mem_append.mp h with z | z
  · refine List.mem_append_right _ ?_
    rw [List.take_add_one]
    exact List.mem_append_left _ z
  · exact List.mem_append_left _ z
/-! ### first and last points -/
theorem ts_head : ∀ (l : List Int) (a : Int), (ts a l).head? = some a
  | [], _ => rfl
  | r :: l, a => by
    simp only [ts]
    split
    · exact ts_head l a
    · rfl
theorem tq_ne : ∀ (l : List Int) (b a : Int), tq b a l ≠ []
  | [], _, _ => by simp [tq]
  | r :: l, b, a => by
    simp only [tq]
    split
    · exact tq_ne l b a
    · split
      · exact tq_ne l b r
      · simp
theorem tq_lastp : ∀ (l : List Int) (b a : Int), (tq b a l).getLast? = (a :: l).getLast?
  | [], _, _ => rfl
  | r :: l, b, a => by
    rw [List.getLast?_cons_cons]
    simp only [tq]
    split
    · rename_i e
      rw [tq_lastp l b a, e]
    · split
      · exact tq_lastp l b r
      · rename_i n1 n2
        have ne := tq_ne l a r
        obtain ⟨x, s, e⟩ : ∃ x s, tq a r l = x :: s := by
          cases h : tq a r l with
          | nil => exact absurd h ne
          | cons x s => exact ⟨x, s, rfl⟩
        rw [e, List.getLast?_cons_cons, ← e]
        exact tq_lastp l a r
theorem ts_lastp : ∀ (l : List Int) (a : Int), (ts a l).getLast? = (a :: l).getLast?
  | [], _ => rfl
  | r :: l, a => by
    rw [List.getLast?_cons_cons]
    simp only [ts]
    split
    · rename_i e
      rw [ts_lastp l a, e]
    · have ne := tq_ne l a r
      obtain ⟨x, s, e⟩ : ∃ x s, tq a r l = x :: s := by
        cases h : tq a r l with
        | nil => exact absurd h ne
        | cons x s => exact ⟨x, s, rfl⟩
      rw [e, List.getLast?_cons_cons, ← e]
      exact tq_lastp l a r
theorem ts_all : ∀ {l : List Int} {a : Int}, (∀ x ∈ l, x = a) → ts a l = [a]
  | [], _, _ => rfl
  | r :: l, a, h => by
    simp only [ts]
    rw [if_pos (h r (by simp)).symm]
    exact ts_all fun x hx => h x (List.mem_cons_of_mem _ hx)
theorem ts_one : ∀ {l : List Int} {a : Int}, ts a l = [a] → ∀ x ∈ l, x = a
  | [], _, _, x, h => (List.not_mem_nil h).elim
  | r :: l, a, h, x, hx => by
    simp only [ts] at h
    by_cases e : a = r
    · rw [if_pos e] at h
      rcases List.mem_cons.mp hx with z | z
      · rw [z, e]
      · exact ts_one h x z
    · rw [if_neg e] at h
      exact absurd (List.cons.inj h).2 (tq_ne _ _ _)
theorem step_head? {p q : List Int} {c : Int × Int} (s : Step p c q) : q.head? = p.head? := by
  cases s with
  | here _ => rfl
  | there _ => rfl
theorem step_ne {p q : List Int} {c : Int × Int} (s : Step p c q) : q ≠ [] := by
  cases s with
  | here _ => simp
  | there _ => simp
theorem step_last? {p q : List Int} {c : Int × Int} (s : Step p c q) : q.getLast? = p.getLast? := by
  induction s with
  | @here a b c d post t => rw [List.getLast?_cons_cons, List.getLast?_cons_cons, List.getLast?_cons_cons, List.getLast?_cons_cons]
  | @there x p q cy s ih =>
    cases q with
    | nil => exact absurd rfl (step_ne s)
    | cons u v =>
      cases p with
      | nil => cases s
      | cons u' v' => rw [List.getLast?_cons_cons, List.getLast?_cons_cons, ih]
theorem step_sub {p q : List Int} {c : Int × Int} (s : Step p c q) : ∀ x ∈ q, x ∈ p := by
  induction s with
  | @here a b c d post t =>
    intro x hx
    simp only [List.mem_cons] at hx ⊢
    rcases hx with e | e | e
    · exact .inl e
    · exact .inr (.inr (.inr (.inl e)))
    · exact .inr (.inr (.inr (.inr e)))
  | there _ ih =>
    intro y hy
    rcases List.mem_cons.mp hy with e | e
    · exact List.mem_cons.mpr (.inl e)
    · exact List.mem_cons_of_mem _ (ih y e)
theorem step_low {p q : List Int} {c : Int × Int} (s : Step p c q) : ZZ p → ∀ x ∈ p, ∃ y ∈ q, y ≤ x := by
  induction s with
  | @here a b c d post t =>
    intro z x hx
    have ti := (taken_iff z.four).mp t
    simp only [List.mem_cons] at hx
    rcases hx with e | e | e | e | e
    · exact ⟨a, by simp, by omega⟩
    · rcases ti with ti | ti
      · exact ⟨a, by simp, by omega⟩
      · exact ⟨d, by simp, by omega⟩
    · rcases ti with ti | ti
      · exact ⟨a, by simp, by omega⟩
      · exact ⟨d, by simp, by omega⟩
    · exact ⟨d, by simp, by omega⟩
    · exact ⟨x, by simp [e], by omega⟩
  | @there u p q cy s ih =>
    intro z x hx
    rcases List.mem_cons.mp hx with e | e
    · exact ⟨u, by simp, by omega⟩
    · obtain ⟨y, hy, l⟩ := ih z.tail x e
      exact ⟨y, List.mem_cons_of_mem _ hy, l⟩
theorem run_keep {p q : List Int} {cs : List (Int × Int)} (r : Run p cs q) : ZZ p → q.head? = p.head? ∧ q.getLast? = p.getLast? ∧ (∀ x ∈ q, x ∈ p) ∧ ∀ x ∈ p, ∃ y ∈ q, y ≤ x := by
  induction r with
  | nil p => exact fun _ => ⟨rfl, rfl, fun _ h => h, fun x h => ⟨x, h, Int.le_refl _⟩⟩
  | cons s _ ih =>
    intro z
    obtain ⟨h1, h2, h3, h4⟩ := ih (ZZ.step s z)
    refine ⟨h1.trans (step_head? s), h2.trans (step_last? s), fun x hx => step_sub s x (h3 x hx), fun x hx => ?_⟩
    obtain ⟨y, hy, l⟩ := step_low s z x hx
    obtain ⟨y2, hy2, l2⟩ := h4 y hy
    exact ⟨y2, hy2, by omega⟩
theorem last_mem {l : List Int} {x : Int} (h : l.getLast? = some x) : x ∈ l := by
  cases l with
  | nil => cases h
  | cons a l =>
    rw [List.getLast?_eq_some_getLast (l := a :: l) (by simp)] at h
    rw [← Option.some.inj h]
    exact List.getLast_mem (by simp)
/-- the rest of a circle that is cut at a greatest reading -/
theorem rest_three {rs : List Int} {M : Int} (z : ZZ rs) (n : NF rs) (h1 : rs.head? = some M) (h2 : rs.getLast? = some M) (h3 : ∀ x ∈ rs, x ≤ M) : rs = [M] ∨ ∃ m, m < M ∧ rs = [M, m, M] := by
  match rs, h1 with
  | [x], h1 => exact .inl (by rw [show x = M from Option.some.inj h1])
  | [x, y], h1 =>
    have e : x = M := Option.some.inj h1
    have e2 : y = M := Option.some.inj h2
    exact absurd (e.trans e2.symm) z
  | x :: y :: w :: t, h1 =>
    have e : x = M := Option.some.inj h1
    subst e
    have hy := h3 y (by simp)
    have hw := h3 w (by simp)
    have z1 := z.1
    have yx : y < x := by omega
    have con := nf_con z n (.inl ⟨yx, hw⟩)
    have lst : (y :: w :: t).getLast? = some x := by
      have := h2
      rw [List.getLast?_cons_cons] at this
      exact this
    have inn := Con.inside con.2 (by omega)
    have hx := inn x (last_mem lst)
    rw [if_pos (by omega), if_pos (by omega)] at hx
    have ew : w = x := by omega
    subst ew
    cases t with
    | nil => exact .inr ⟨y, yx, rfl⟩
    | cons u t =>
      exfalso
      have c2 := con.2.1
      have hu := h3 u (by simp)
      have nt : ¬ Taken w y w u := fun k => n _ _ (.here k)
      have z4 : ZZ (w :: y :: w :: u :: []) := z.four
      rw [taken_iff z4] at nt
      have uy : y < u := by omega
      cases t with
      | nil =>
        have : u = w := by
          have l2 := h2
          rw [List.getLast?_cons_cons, List.getLast?_cons_cons, List.getLast?_cons_cons] at l2
          exact Option.some.inj l2
        omega
      | cons v t =>
        have c3 := con.2.2.1
        have hv := h3 v (by simp)
        have lst2 : (u :: v :: t).getLast? = some w := by
          have := h2
          rw [List.getLast?_cons_cons, List.getLast?_cons_cons, List.getLast?_cons_cons] at this
          exact this
        have inn2 := Con.inside con.2.2.2 (by omega)
        have hx2 := inn2 w (last_mem lst2)
        rw [if_pos (by omega), if_pos (by omega)] at hx2
        have ev : v = w := by omega
        have nt2 : ¬ Taken y w u v := fun k => n _ _ (.there (.here k))
        rw [taken_iff z.tail.four] at nt2
        omega
/-! ### closed cycles -/
/-- es are the closed cycles of ns -/
structure Cl (ns : List Int) (es : List (Int × Int)) : Prop where
  cnt : ∀ lo hi, lo < hi → rnd lo hi ns = 2 * nh lo hi es
  srt : es.Pairwise Le
  inr : ∀ u v, (∀ x ∈ ns, u ≤ x ∧ x ≤ v) → ∀ r ∈ es, InR u v r
theorem Cl.many {ns : List Int} {es : List (Int × Int)} (h : Cl ns es) {lo hi : Int} (h0 : lo < hi) : (rnd lo hi ns : Int) - rnd (lo - 1) hi ns - rnd lo (hi + 1) ns + rnd (lo - 1) (hi + 1) ns = 2 * (es.count (lo, hi) : Nat) := by
  have j := just (lo := lo) (hi := hi) es
  rw [h.cnt lo hi h0, h.cnt (lo - 1) hi (by omega), h.cnt lo (hi + 1) (by omega), h.cnt (lo - 1) (hi + 1) (by omega)]
  omega
theorem ends_of (ns : List Int) : ∃ u v, ∀ x ∈ ns, u ≤ x ∧ x ≤ v := by
  induction ns with
  | nil => exact ⟨0, 0, fun x h => (List.not_mem_nil h).elim⟩
  | cons a l ih =>
    obtain ⟨u, v, h⟩ := ih
    refine ⟨min u a, max v a, fun x hx => ?_⟩
    rcases List.mem_cons.mp hx with e | e
    · omega
    · have := h x e
      omega
theorem Cl.one {ns : List Int} {es fs : List (Int × Int)} (h : Cl ns es) (g : Cl ns fs) : es = fs := by
  refine sorted_same (List.perm_iff_count.mpr fun r => ?_) h.srt g.srt
  obtain ⟨lo, hi⟩ := r
  by_cases z : lo < hi
  · have h1 := h.many z
    have h2 := g.many z
    omega
  · obtain ⟨u, v, b⟩ := ends_of ns
    rw [List.count_eq_zero.mpr fun m => z (h.inr u v b _ m).2.1, List.count_eq_zero.mpr fun m => z (g.inr u v b _ m).2.1]
theorem Cl.all_eq {ns : List Int} {M : Int} (h : ∀ x ∈ ns, x = M) : Cl ns [] := by
  refine ⟨fun lo hi h0 => ?_, List.Pairwise.nil, fun _ _ _ r z => (List.not_mem_nil z).elim⟩
  show cyc (lets lo hi ns) = 0
  cases e : lett lo hi M with
  | none =>
    refine cyc_one (b := true) fun b hb => ?_
    obtain ⟨x, hx, ex⟩ := lets_mem hb
    rw [h x hx, e] at ex
    cases ex
  | some b' =>
    refine cyc_one (b := b') fun b hb => ?_
    obtain ⟨x, hx, ex⟩ := lets_mem hb
    rw [h x hx, e] at ex
    exact (Option.some.inj ex).symm
/-- the points on the circle -/
def CP (ns ps : List Int) : Prop := (ns = [] ∧ ps = []) ∨ ∃ a M, Top ns a M ∧ ps = (tp (circ ns a)).dropLast
theorem CP.one {ns ps qs : List Int} (h : CP ns ps) (g : CP ns qs) : ps = qs := by
  rcases h with ⟨e, h⟩ | ⟨a, M, t, h⟩
  · rcases g with ⟨_, g⟩ | ⟨b, N, u, _⟩
    · rw [h, g]
    · have := u.at'
      rw [e] at this
      simp at this
  · rcases g with ⟨e, _⟩ | ⟨b, N, u, g⟩
    · have := t.at'
      rw [e] at this
      simp at this
    · rw [h, g, (t.one u).1]
theorem tp_circ {ns : List Int} {a : Nat} {M : Int} (t : Top ns a M) : (tp (circ ns a)).head? = some M ∧ (tp (circ ns a)).getLast? = some M ∧ ∀ x ∈ tp (circ ns a), x ≤ M := by
  have e := circ_eq t.at'
  have e2 : circ ns a = M :: ((ns.drop (a + 1) ++ ns.take a) ++ [M]) := by rw [e]; rfl
  refine ⟨?_, ?_, fun x hx => t.le x (circ_mem (tp_mem hx))⟩
  · rw [e2]
    exact ts_head _ _
  · rw [e2]
    show (ts M _).getLast? = _
    rw [ts_lastp]
    show (M :: (ns.drop (a + 1) ++ ns.take a) ++ [M]).getLast? = some M
    rw [List.getLast?_append]
    rfl
/-- no points on the circle exactly if all readings are equal -/
theorem cp_nil {ns : List Int} {a : Nat} {M : Int} (t : Top ns a M) : (tp (circ ns a)).dropLast = [] ↔ ∀ x ∈ ns, x = M := by
  have e2 : circ ns a = M :: ((ns.drop (a + 1) ++ ns.take a) ++ [M]) := by rw [circ_eq t.at']; rfl
  constructor
  · intro h x hx
    have hh := (tp_circ t).1
    have e : tp (circ ns a) = [M] := by
      match hq : tp (circ ns a), hh, h with
      | [y], hh, _ => rw [show y = M from Option.some.inj hh]
      | y :: w :: l, _, h => simp at h
    rw [e2] at e
    have := ts_one e
    rcases List.mem_cons.mp (e2 ▸ mem_circ (a := a) hx) with z | z
    · exact z
    · exact this x z
  · intro h
    have : tp (circ ns a) = [M] := by
      rw [e2]
      refine ts_all fun x hx => ?_
      refine h x (circ_mem (a := a) ?_)
      rw [e2]
      exact List.mem_cons_of_mem _ hx
    rw [this]
    rfl
theorem drop_last_back {l : List Int} {M : Int} (h : l.getLast? = some M) : l.dropLast ++ [M] = l := by
  cases l with
  | nil => cases h
  | cons a l =>
    rw [List.getLast?_eq_some_getLast (l := a :: l) (by simp)] at h
    rw [← Option.some.inj h]
    exact List.dropLast_concat_getLast (by simp)
theorem mem_dl {l : List Int} {x : Int} (h : x ∈ l.dropLast) : x ∈ l := (List.dropLast_sublist l).subset h
/-- the closed cycles: the cycles from a greatest reading round to it, and one from the least to the greatest -/
theorem cl_of {ns : List Int} {a : Nat} {M m : Int} (t : Top ns a M) (hne : (tp (circ ns a)).dropLast ≠ []) {cs ds es : List (Int × Int)} {rs : List Int} (r : Run (tp (circ ns a)) cs rs) (n : NF rs) (p : ds.Perm cs)
    (hm : m ∈ (tp (circ ns a)).dropLast) (hl : ∀ x ∈ (tp (circ ns a)).dropLast, m ≤ x) (pe : es.Perm (ds ++ [(m, M)])) (srt : es.Pairwise Le) : Cl ns es ∧ m < M := by
  obtain ⟨c1, c2, c3⟩ := tp_circ t
  have zz := tp_zz (circ ns a)
  obtain ⟨k1, k2, k3, k4⟩ := run_keep r zz
  have zr := r.zz zz
  obtain ⟨x0, hx0, nx0⟩ : ∃ x ∈ tp (circ ns a), x ≠ M := by
    by_cases z : ∀ x ∈ ns, x = M
    · exact absurd ((cp_nil t).mpr z) hne
    · obtain ⟨x, hx⟩ := Classical.not_forall.mp z
      obtain ⟨hx1, hx2⟩ := Classical.not_imp.mp hx
      by_cases z2 : ∀ y ∈ tp (circ ns a), y = M
      · have zl : (tp (circ ns a)).dropLast = [] := by
          match hq : tp (circ ns a), zz, z2 with
          | [], _, _ => rfl
          | [y], _, _ => rfl
          | y :: w :: l, zz, z2 => exact absurd ((z2 y (by simp)).trans (z2 w (by simp)).symm) (zz_cons zz)
        exact absurd zl hne
      · obtain ⟨y, hy⟩ := Classical.not_forall.mp z2
        obtain ⟨hy1, hy2⟩ := Classical.not_imp.mp hy
        exact ⟨y, hy1, hy2⟩
  rcases rest_three zr n (k1.trans c1) (k2.trans c2) (fun x hx => c3 x (k3 x hx)) with e | ⟨m', hm', e⟩
  · exfalso
    obtain ⟨y, hy, l⟩ := k4 x0 hx0
    rw [e] at hy
    have := List.mem_singleton.mp hy
    have := c3 x0 hx0
    omega
  · have em' : m' = m := by
      have b := drop_last_back c2
      have h1 : m' ∈ tp (circ ns a) := k3 m' (by rw [e]; simp)
      have h2 : m' ∈ (tp (circ ns a)).dropLast := by
        rw [← b] at h1
        rcases List.mem_append.mp h1 with z | z
        · exact z
        · exact absurd (List.mem_singleton.mp z) (by omega)
      have h3 := hl m' h2
      obtain ⟨y, hy, l⟩ := k4 m (mem_dl hm)
      rw [e] at hy
      simp only [List.mem_cons, List.not_mem_nil, or_false] at hy
      omega
    subst em'
    refine ⟨⟨fun lo hi h0 => ?_, srt, fun u v hb q hq => ?_⟩, hm'⟩
    · rw [rnd_circ h0 t, chg_count h0 r n, nh_perm pe, nh_app, nh_perm p, e]
      show 2 * nh lo hi cs + nh lo hi [rg M m', rg m' M] = _
      rw [rg_down hm', rg_up hm', nh_cons, nh_cons]
      have e0 : nh lo hi [] = 0 := rfl
      rw [e0]
      omega
    · have hb2 : ∀ x ∈ tp (circ ns a), u ≤ x ∧ x ≤ v := fun x hx => hb x (circ_mem (tp_mem hx))
      obtain ⟨i1, _⟩ := run_in r zz hb2
      rcases List.mem_append.mp (pe.mem_iff.mp hq) with z | z
      · exact i1 q (p.mem_iff.mp z)
      · rw [List.mem_singleton.mp z]
        have h1 := hb2 m' (mem_dl hm)
        have h2 := hb2 M (last_mem c2)
        exact ⟨h1.1, hm', h2.2⟩
/-! ### moved -/
theorem lett_mv (s lo hi x : Int) : lett (lo + s) (hi + s) (x + s) = lett lo hi x := by
  unfold lett
  by_cases h1 : x ≤ lo
  · rw [if_pos h1, if_pos (by omega)]
  · rw [if_neg h1, if_neg (by omega)]
    by_cases h2 : hi ≤ x
    · rw [if_pos h2, if_pos (by omega)]
    · rw [if_neg h2, if_neg (by omega)]
theorem lets_mv (s lo hi : Int) : ∀ ns : List Int, lets (lo + s) (hi + s) (ns.map (· + s)) = lets lo hi ns
  | [] => rfl
  | x :: l => by
    have ih := lets_mv s lo hi l
    unfold lets at *
    rw [List.map_cons, List.filterMap_cons, List.filterMap_cons, ih, lett_mv]
def mv (s : Int) (r : Int × Int) : Int × Int := (r.1 + s, r.2 + s)
theorem nh_mv (s lo hi : Int) : ∀ es : List (Int × Int), nh (lo + s) (hi + s) (es.map (mv s)) = nh lo hi es
  | [] => rfl
  | (a, b) :: es => by
    have ih := nh_mv s lo hi es
    rw [List.map_cons, nh_cons, nh_cons, ih]
    congr 1
    unfold mv hl
    dsimp only
    rw [show decide (a + s ≤ lo + s) = decide (a ≤ lo) by rw [decide_eq_decide]; omega, show decide (hi + s ≤ b + s) = decide (hi ≤ b) by rw [decide_eq_decide]; omega]
theorem Cl.mv {ns : List Int} {es : List (Int × Int)} (h : Cl ns es) (s : Int) : Cl (ns.map (· + s)) (es.map (mv s)) := by
  refine ⟨fun lo hi h0 => ?_, ?_, fun u v hb r hr => ?_⟩
  · have e1 := lets_mv s (lo - s) (hi - s) ns
    have e2 := nh_mv s (lo - s) (hi - s) es
    rw [show lo - s + s = lo by omega, show hi - s + s = hi by omega] at e1 e2
    unfold rnd
    rw [e1, e2]
    exact h.cnt _ _ (by omega)
  · rw [List.pairwise_map]
    refine h.srt.imp fun {a b} h => ?_
    unfold K20.mv Le at *
    dsimp only
    omega
  · obtain ⟨r0, h1, h2⟩ := List.mem_map.mp hr
    have i := h.inr (u - s) (v - s) (fun x hx => by
      have := hb (x + s) (List.mem_map.mpr ⟨x, hx, rfl⟩)
      omega) r0 h1
    unfold InR at *
    rw [← h2]
    unfold K20.mv
    dsimp only
    omega
theorem Top.mv {ns : List Int} {a : Nat} {M : Int} (t : Top ns a M) (s : Int) : Top (ns.map (· + s)) a (M + s) := by
  refine ⟨by rw [List.getElem?_map, t.at']; rfl, fun x hx => ?_, fun j x hj hx => ?_⟩
  · obtain ⟨y, hy, e⟩ := List.mem_map.mp hx
    have := t.le y hy
    omega
  · rw [List.getElem?_map] at hx
    cases e : ns[j]? with
    | none => rw [e] at hx; cases hx
    | some y =>
      rw [e] at hx
      have h1 := t.first j y hj e
      have h2 : y + s = x := Option.some.inj hx
      omega
theorem CP.mv {ns ps : List Int} (h : CP ns ps) (s : Int) : CP (ns.map (· + s)) (ps.map (· + s)) := by
  rcases h with ⟨e1, e2⟩ | ⟨a, M, t, e⟩
  · exact .inl ⟨by rw [e1]; rfl, by rw [e2]; rfl⟩
  · refine .inr ⟨a, M + s, t.mv s, ?_⟩
    have st : Str fun x => x + s := .inl fun a b => by dsimp only; omega
    have ec : circ (ns.map (· + s)) a = (circ ns a).map (· + s) := by
      unfold circ
      rw [List.map_append, List.map_drop, List.map_take]
    rw [e, ec]
    have := tp_map st (circ ns a)
    rw [this, List.map_dropLast]
end K20

set_option pp.maxSteps 900
/-! k10: others, long ones -/
namespace I1V
open PySem PySem.Spec PyProof.Rows L2 KA KD PH PM PA PB PC RM RN RC RS QE QF QG QH QJ RJ UJN I1M
open K9 (Cn cn_one)
open I1R
abbrev sOt : Stmt := topS 31
abbrev sLg : Stmt := topS 32
theorem scOt : FnScope ["far", "equal", "one", "two", "both"] ["far"] (defScope sOt) := ⟨rfl, rfl, rfl, by decide +kernel, rfl, by decide +kernel, by decide +kernel⟩
theorem scLg : FnScope ["far", "count", "load", "due", "step"] ["far"] (defScope sLg) := ⟨rfl, rfl, rfl, by decide +kernel, rfl, by decide +kernel, by decide +kernel⟩
structure Txt (K : PySem.W.Frag) (mg : Str → Option Value) (fCO fRG fTP fIL fBT fCH fNU fRM fTK fIR fMT fPB fCN fFE fTA fPI fRO fMV fOT fLG C fIN pO fOF fJN pC fPC pR fPR_ : Addr) (dCO dRG dTP dIL dBT dCH dNU dRM dTK dIR dMT dPB dCN dFE dTA dPI dRO dMV dOT dLG dIN dOF dJN dPC dPR_ : FuncData) : Prop where
  FCO : Fun K "contains" "contains" sCont fCO dCO
  gCO : mg "contains" = some (.ref fCO)
  kCO : PySem.W.keepIn K (.ref fCO) = true
  bCO : Binds K dCO ["outer", "inner"] []
  FRG : Fun K "range_of" "range_of" sRng fRG dRG
  gRG : mg "range_of" = some (.ref fRG)
  kRG : PySem.W.keepIn K (.ref fRG) = true
  bRG : Binds K dRG ["one", "other"] []
  FTP : Fun K "turning_points" "turning_points" sTP fTP dTP
  gTP : mg "turning_points" = some (.ref fTP)
  kTP : PySem.W.keepIn K (.ref fTP) = true
  bTP : Binds K dTP ["load"] []
  FIL : Fun K "is_left_out" "is_left_out" sLO fIL dIL
  gIL : mg "is_left_out" = some (.ref fIL)
  kIL : PySem.W.keepIn K (.ref fIL) = true
  bIL : Binds K dIL ["points", "reading"] []
  FBT : Fun K "_lies_between" "_lies_between" sBtw fBT dBT
  gBT : mg "_lies_between" = some (.ref fBT)
  kBT : PySem.W.keepIn K (.ref fBT) = true
  bBT : Binds K dBT ["reading", "before", "after"] []
  FCH : Fun K "changes" "changes" sCh fCH dCH
  gCH : mg "changes" = some (.ref fCH)
  kCH : PySem.W.keepIn K (.ref fCH) = true
  bCH : Binds K dCH ["load", "low", "high"] []
  FNU : Fun K "is_number" "is_number" sNum fNU dNU
  gNU : mg "is_number" = some (.ref fNU)
  kNU : PySem.W.keepIn K (.ref fNU) = true
  bNU : Binds K dNU ["value"] []
  FRM : Fun K "removable" "removable" sRem fRM dRM
  gRM : mg "removable" = some (.ref fRM)
  kRM : PySem.W.keepIn K (.ref fRM) = true
  bRM : Binds K dRM ["points"] []
  FTK : Fun K "take" "take" sTk fTK dTK
  gTK : mg "take" = some (.ref fTK)
  kTK : PySem.W.keepIn K (.ref fTK) = true
  bTK : Binds K dTK ["points", "place"] []
  FIR : Fun K "_is_removable" "_is_removable" sIR fIR dIR
  gIR : mg "_is_removable" = some (.ref fIR)
  kIR : PySem.W.keepIn K (.ref fIR) = true
  bIR : Binds K dIR ["points", "value"] []
  FMT : Fun K "_may_be_taken" "_may_be_taken" sMT fMT dMT
  gMT : mg "_may_be_taken" = some (.ref fMT)
  kMT : PySem.W.keepIn K (.ref fMT) = true
  bMT : Binds K dMT ["points", "place"] []
  FPB : Fun K "put_behind" "put_behind" sPB fPB dPB
  gPB : mg "put_behind" = some (.ref fPB)
  kPB : PySem.W.keepIn K (.ref fPB) = true
  bPB : Binds K dPB ["rest", "reading"] []
  FCN : Fun K "_counted" "_counted" sCo fCN dCN
  gCN : mg "_counted" = some (.ref fCN)
  kCN : PySem.W.keepIn K (.ref fCN) = true
  bCN : Binds K dCN ["load"] []
  FFE : Fun K "_law_feed" "_law_feed" sFeed fFE dFE
  gFE : mg "_law_feed" = some (.ref fFE)
  kFE : PySem.W.keepIn K (.ref fFE) = true
  bFE : Binds K dFE ["script", "k"] []
  FTA : Fun K "_law_take" "_law_take" sTake fTA dTA
  gTA : mg "_law_take" = some (.ref fTA)
  kTA : PySem.W.keepIn K (.ref fTA) = true
  bTA : Binds K dTA ["feed", "many"] []
  FPI : Fun K "_law_pick" "_law_pick" sPick fPI dPI
  gPI : mg "_law_pick" = some (.ref fPI)
  kPI : PySem.W.keepIn K (.ref fPI) = true
  bPI : Binds K dPI ["feed", "some"] []
  FRO : Fun K "_law_rows" "_law_rows" sRo fRO dRO
  gRO : mg "_law_rows" = some (.ref fRO)
  kRO : PySem.W.keepIn K (.ref fRO) = true
  bRO : Binds K dRO [] []
  FMV : Fun K "_law_moved" "_law_moved" sMv fMV dMV
  gMV : mg "_law_moved" = some (.ref fMV)
  kMV : PySem.W.keepIn K (.ref fMV) = true
  bMV : Binds K dMV ["row", "far"] []
  FOT : Fun K "_law_others_right" "_law_others_right" I1V.sOt fOT dOT
  gOT : mg "_law_others_right" = some (.ref fOT)
  kOT : PySem.W.keepIn K (.ref fOT) = true
  bOT : Binds K dOT ["far"] []
  FLG : Fun K "_law_long_right" "_law_long_right" I1V.sLg fLG dLG
  gLG : mg "_law_long_right" = some (.ref fLG)
  kLG : PySem.W.keepIn K (.ref fLG) = true
  bLG : Binds K dLG ["far"] []
  gC : mg "Count" = some (.ref C)
  cn : Cnt K C
  mkc : Mk K C fIN
  FIN : Fun K "__init__" "Count.__init__" sInit fIN dIN
  bIN : Binds K dIN ["self", "cycles", "rest"] []
  rd : ClX.CRead K C (.type "type")
  cm : ClX.CMet K C (.type "type") "of" pO fOF
  FOF : Fun K "of" "Count.of" sOf fOF dOF
  bOF : Binds K dOF ["cls", "load"] []
  sj : SM.SMet K C (.type "type") "joined" fJN
  FJN : Fun K "joined" "Count.joined" sJN fJN dJN
  prC : PropOf K C "cycles" pC fPC
  FPC : Fun K "cycles" "Count.cycles" sPC fPC dPC
  bPC : Binds K dPC ["self"] []
  prR : PropOf K C "rest" pR fPR_
  FPR_ : Fun K "rest" "Count.rest" sPR fPR_ dPR_
  bPR_ : Binds K dPR_ ["self"] []
  len : mg "len" = none
  zip : mg "zip" = none
  max : mg "max" = none
  min : mg "min" = none
  abs : mg "abs" = none
  range : mg "range" = none
  sorted : mg "sorted" = none
  tuple : mg "tuple" = none
  list : mg "list" = none
  int : mg "int" = none
  isinstance : mg "isinstance" = none
  bool : mg "bool" = none
theorem shaped_tpr (ds : List (Int × Int)) : SeqAt.shaped (.tuple (dPairs ds)) = true :=
  shaped_of (by simp only [PyData.canLay0, lay_pairs]) (by have := depth_pairs ds; simp only [PyData.depth]; omega)
def dCn (ds : List (Int × Int)) (rs : List Int) : PyData := .tuple [.tuple (dPairs ds), .tuple (dInts rs)]
theorem shaped_cn (ds : List (Int × Int)) (rs : List Int) : SeqAt.shaped (dCn ds rs) = true :=
  shaped_of (by unfold dCn; simp only [PyData.canLay0, PyData.canLayAll0, lay_pairs, lay_ints, Bool.and_self, Bool.and_true]) (by have := depth_pairs ds; have := KG.depth_all rs; unfold dCn dInts; simp only [PyData.depth, PyData.depthAll]; omega)
theorem dp_cn {K : PySem.W.Frag} {H : Hp} {u t1 t2 : Addr} {ys : List V} {ds : List (Int × Int)} {rs : List Int} (hu : H u = some (.tup [.ref t1, .ref t2])) (h1 : H t1 = some (.tup ys)) (pa : PairsAt H ys ds) (h2 : H t2 = some (.tup (rs.map V.int))) : Dp K H (.ref u) (dCn ds rs) :=
  .tup (SqT.of hu) (.cons (.tup (SqT.of h1) (dp_pairs pa)) (.cons (.tup (SqT.of h2) (dp_ints rs)) .nil))
theorem sat2 {H : Hp} {C x : Addr} {ds : List (Int × Int)} {rs : List Int} (h : CountAt H C x ds rs) : ∃ dx t1 t2, H x = some (.ins C dx [("_cycles", .ref t1), ("_rest", .ref t2)]) := by
  obtain ⟨dx, t1, t2, _, h, _⟩ := h
  exact ⟨dx, t1, t2, h⟩
theorem map_add (far : Int) (l : List Int) (m : List Int) (h : l.map (fun x => far + x) = m) : l.map (· + far) = m := by
  rw [← h]
  exact List.map_congr_left fun x _ => Int.add_comm x far
theorem shaped2 (as bs : List Int) : SeqAt.shaped (.tuple [.tuple (dInts as), .tuple (dInts bs)]) = true :=
  shaped_of (by simp only [PyData.canLay0, PyData.canLayAll0, lay_ints, Bool.and_self, Bool.and_true]) (by have := KG.depth_all as; have := KG.depth_all bs; unfold dInts; simp only [PyData.depth, PyData.depthAll]; omega)
theorem strF (far : Int) : K9.Str (far + ·) := .inl fun a b => by show a < b ↔ far + a < far + b; omega
theorem zz5_ (far : Int) : ZZ [far, far + 4, far, far + 4, far] := by
  have e := K9.tp_map (strF far) [0, 4, 0, 4, 0]
  rw [show tp [0, 4, 0, 4, 0] = [0, 4, 0, 4, 0] by decide] at e
  have := tp_zz (([0, 4, 0, 4, 0] : List Int).map (far + ·))
  rw [e] at this
  simpa using this
theorem tk1_ (far : Int) : Taken far (far + 4) far (far + 4) := by
  have h : Taken (far + 0) (far + 4) (far + 0) (far + 4) := K9.taken_map (strF far) (show Taken 0 4 0 4 by decide)
  rw [Int.add_zero] at h
  exact h
theorem tk2_ (far : Int) : Taken (far + 4) far (far + 4) far := by
  have h : Taken (far + 4) (far + 0) (far + 4) (far + 0) := K9.taken_map (strF far) (show Taken 4 0 4 0 by decide)
  rw [Int.add_zero] at h
  exact h
theorem epl_ (far : Int) : plc [far, far + 4, far, far + 4, far] = [1, 2] := by
  have a0 : takenAt [far, far + 4, far, far + 4, far] 0 = true := (taken_get rfl rfl rfl rfl).trans (decide_eq_true (tk1_ far))
  have a1 : takenAt [far, far + 4, far, far + 4, far] 1 = true := (taken_get rfl rfl rfl rfl).trans (decide_eq_true (tk2_ far))
  unfold plc
  rw [show List.range ([far, far + 4, far, far + 4, far].length - 3) = [0, 1] from rfl, List.filter_cons, if_pos a0, List.filter_cons, if_pos a1]
  rfl
/-- the counts of others -/
theorem cn_one_ (far : Int) : Cn [far, far + 5, far + 3, far + 4] [] [far, far + 5, far + 3, far + 4] := by
  have h := cn_mv (cn_of (A := [0, 5, 3, 4]) (C := []) (B := [0, 5, 3, 4]) (by decide +kernel)) (fun c hc => (List.not_mem_nil hc).elim) far
  have e : ([0, 5, 3, 4] : List Int).map (· + far) = [far, far + 5, far + 3, far + 4] := map_add far _ _ (by show [far + 0, far + 5, far + 3, far + 4] = _; rw [Int.add_zero])
  rw [e] at h
  exact h
theorem cn_two_ (far : Int) : Cn [far + 6, far + 1] [] [far + 6, far + 1] := by
  have h := cn_mv (cn_of (A := [6, 1]) (C := []) (B := [6, 1]) (by decide +kernel)) (fun c hc => (List.not_mem_nil hc).elim) far
  have e : ([6, 1] : List Int).map (· + far) = [far + 6, far + 1] := map_add far _ _ rfl
  rw [e] at h
  exact h
theorem cn_both_ (far : Int) : Cn [far, far + 5, far + 3, far + 4, far + 6, far + 1] [(far + 3, far + 5)] [far, far + 6, far + 1] := by
  have h := cn_mv (cn_of (A := [0, 5, 3, 4, 6, 1]) (C := [(3, 5)]) (B := [0, 6, 1]) (by decide +kernel)) (by decide) far
  have e : ([0, 5, 3, 4, 6, 1] : List Int).map (· + far) = [far, far + 5, far + 3, far + 4, far + 6, far + 1] := map_add far _ _ (by show [far + 0, far + 5, far + 3, far + 4, far + 6, far + 1] = _; rw [Int.add_zero])
  have e2 : ([0, 6, 1] : List Int).map (· + far) = [far, far + 6, far + 1] := map_add far _ _ (by show [far + 0, far + 6, far + 1] = _; rw [Int.add_zero])
  have e3 : ([(3, 5)] : List (Int × Int)).map (mv far) = [(far + 3, far + 5)] := by
    show [((3 : Int) + far, (5 : Int) + far)] = _
    rw [Int.add_comm 3, Int.add_comm 5]
  rw [e, e2, e3] at h
  exact h
theorem chg_ (far : Int) : KM.chg [far, far + 6, far + 4, far + 10] (far + 1) (far + 9) = 1 := by
  have h := K20.lets_mv far 1 9 [0, 6, 4, 10]
  have e : ([0, 6, 4, 10] : List Int).map (· + far) = [far, far + 6, far + 4, far + 10] := map_add far _ _ (by show [far + 0, far + 6, far + 4, far + 10] = _; rw [Int.add_zero])
  rw [e, Int.add_comm 1, Int.add_comm 9] at h
  unfold KM.chg
  rw [h]
  decide
/-- a heap of which facts are known, named anew -/
theorem KeyH.use {P : Hp → Prop} {G : Hp → Prop} (H : Hp) (h : P H) (k : ∀ H, P H → G H) : G H := k H h
theorem notwhole (far : Int) : ¬ (HT.sIx (([far, far + 4, far, far + 4, far] : List Int).map V.int).length 0 none = 0 ∧ HT.sIx (([far, far + 4, far, far + 4, far] : List Int).map V.int).length (([far, far + 4, far, far + 4, far] : List Int).map V.int).length (some 3) = (([far, far + 4, far, far + 4, far] : List Int).map V.int).length) := by
  show ¬ (HT.sIx 5 0 none = 0 ∧ HT.sIx 5 5 (some 3) = 5)
  decide
theorem rep_fro (far : Int) : (List.replicate (1000 : Int).toNat [V.int far, V.int (far - 1)]).flatten = ((RK.fro 1 1000).map (far - ·)).map V.int := by
  have h : ∀ n : Nat, (List.replicate n [V.int far, V.int (far - 1)]).flatten = ((RK.fro 1 n).map (far - ·)).map V.int := by
    intro n
    induction n with
    | zero => rfl
    | succ n ih =>
      rw [List.replicate_succ', List.flatten_append, ih]
      show _ = ((RK.fro 1 n ++ [0, 1]).map (far - ·)).map V.int
      rw [List.map_append, List.map_append]
      show _ ++ _ = _ ++ [V.int (far - 0), V.int (far - 1)]
      rw [Int.sub_zero]
      rfl
  exact h 1000
theorem pairs_rep {H : Hp} {u : Addr} {c : Int × Int} (h : H u = some (.tup [.int c.1, .int c.2])) : ∀ n : Nat, PairsAt H (List.replicate n [V.ref u]).flatten (List.replicate n c)
  | 0 => trivial
  | n + 1 => ⟨⟨u, rfl, h⟩, pairs_rep h n⟩
theorem cn_add {ld : List Int} {ds ds' cs : List (Int × Int)} {rs rs' : List Int} {r : Int} (h : Cn ld ds rs) (run : Run (push rs r) cs rs') (nf : NF rs') (p : ds'.Perm (cs ++ ds)) (srt : ds'.Pairwise Le) : Cn (ld ++ [r]) ds' rs' := by
  obtain ⟨c0, r0, p0⟩ := h.ex
  refine ⟨⟨c0 ++ cs, ?_, p.trans (List.perm_append_comm.trans (p0.append_right cs))⟩, nf, srt⟩
  rw [tp_push]
  exact Run.append (run_push r0 (tp_zz ld) r) run
theorem cn_close (m : Nat) (h : 1 ≤ m) (x : Int) (hx : (m : Int) - 1 ≤ x) : Cn (RK.nar (m : Nat) m ++ [x]) ((RK.due (m : Nat) m).drop 1) [(m : Int), -(m : Int), x] := by
  obtain ⟨j, rfl⟩ : ∃ j, m = j + 1 := ⟨m - 1, by omega⟩
  obtain ⟨c0, p0, r0⟩ := RK.run_nar ((j + 1 : Nat) : Int) x hx j (by omega)
  have e : RK.nar ((j + 1 : Nat) : Int) 1 ++ [x] = [((j + 1 : Nat) : Int), -((j + 1 : Nat) : Int), x] := by
    show [((j + 1 : Nat) : Int) - ((0 : Nat) : Int), -(((j + 1 : Nat) : Int) - ((0 : Nat) : Int))] ++ [x] = _
    simp
  rw [e] at r0
  refine cn_add (RK.cn_nar ((j + 1 : Nat) : Int) (j + 1) (Int.le_refl _)) (cs := c0) ?_ (RK.nf_short (by show 3 ≤ 3; omega)) ?_ (RK.due_srt _ _)
  · rw [RK.push_nar (j + 1) x (by omega) (by omega)]
    exact r0
  · rw [List.append_nil]
    exact p0.symm
theorem _root_.PH.PairsAt.drop1 {H : Hp} : ∀ {xs : List V} {rs : List (Int × Int)}, PairsAt H xs rs → PairsAt H (xs.drop 1) (rs.drop 1)
  | [], [], _ => trivial
  | _ :: _, _ :: _, ⟨_, r⟩ => r
  | [], _ :: _, h => h.elim
  | _ :: _, [], h => h.elim
theorem cutv_from (xs : List V) (j : Nat) : cutV xs (some (j : Int)) none = xs.drop j := by
  unfold cutV
  rw [HT.sIx_nat xs.length 0 j, HT.sIx_none]
  by_cases h : j ≤ xs.length
  · rw [Nat.min_eq_left h, List.take_of_length_le (by rw [List.length_drop]; exact Nat.le_refl _)]
  · rw [Nat.min_eq_right (by omega), Nat.sub_self, List.take_zero, List.drop_of_length_le (by omega)]
theorem due_lt : ∀ c ∈ (RK.due 51 51).drop 1, c.1 < c.2 := fun c hc => by
  have := List.mem_of_mem_drop hc
  unfold RK.due at this
  obtain ⟨i, hi, rfl⟩ := List.mem_map.mp this
  have := List.mem_range.mp hi
  dsimp only
  omega
theorem last3_ (far : Int) : ([((51 : Nat) : Int), -((51 : Nat) : Int), 100] : List Int).map (· + (far - 100)) = [far - 49, far - 151, far] := by
  show [((51 : Nat) : Int) + (far - 100), -((51 : Nat) : Int) + (far - 100), 100 + (far - 100)] = _
  congr 1
  · omega
  congr 1
  · omega
  congr 1
  omega
section
variable {P : Program} {w : World} {K : PySem.W.Frag} {mg : Str → Option Value} {base : Heap} {fCO fRG fTP fIL fBT fCH fNU fRM fTK fIR fMT fPB fCN fFE fTA fPI fRO fMV fOT fLG C fIN pO fOF fJN pC fPC pR fPR_ : Addr} {dCO dRG dTP dIL dBT dCH dNU dRM dTK dIR dMT dPB dCN dFE dTA dPI dRO dMV dOT dLG dIN dOF dJN dPC dPR_ : FuncData}
def spOt : Sp := fun vs H Q _ => ∃ far : Int, vs = [.int far] ∧ ∀ H', Same H H' → Q (.bl true) H'
theorem ok_ot {f0 : Addr} {fd : FuncData} (F : Fun K "_law_others_right" "_law_others_right" sOt f0 fd) (T : Txt K mg fCO fRG fTP fIL fBT fCH fNU fRM fTK fIR fMT fPB fCN fFE fTA fPI fRO fMV fOT fLG C fIN pO fOF fJN pC fPC pR fPR_ dCO dRG dTP dIL dBT dCH dNU dRM dTK dIR dMT dPB dCN dFE dTA dPI dRO dMV dOT dLG dIN dOF dJN dPC dPR_) : FnOk P w K mg base CX0 6 f0 fd ["far"] spOt := by
  have GCO : FnOk P w K mg base CX0 1 fCO dCO ["outer", "inner"] (spCont K) := ok_Cont T.FCO
  have GRG : FnOk P w K mg base CX0 1 fRG dRG ["one", "other"] spRng := ok_Rng T.FRG T.min T.max
  have GIL : FnOk P w K mg base CX0 2 fIL dIL ["points", "reading"] (spLO K) := ok_LO T.FIL T.FBT T.gBT T.bBT T.len
  have GTP : FnOk P w K mg base CX0 3 fTP dTP ["load"] (spTP K) := both (ok_TPl T.FTP GIL T.gIL T.kIL T.bIL T.tuple) (ok_TPt T.FTP GIL T.gIL T.kIL T.bIL T.tuple)
  have GTQ : FnOk P w K mg base CX0 3 fTP dTP ["load"] (spTPq K) := tpq_of GTP
  have GCH : FnOk P w K mg base CX0 1 fCH dCH ["load", "low", "high"] (spCh K) := ok_ch T.FCH T.len T.zip
  have GMT : FnOk P w K mg base CX0 2 fMT dMT ["points", "place"] (spMT K) := ok_MT T.FMT T.abs
  have GNU : FnOk P w K mg base CX0 1 fNU dNU ["value"] spNum := ok_Num T.FNU T.isinstance T.int T.bool
  have GRM : FnOk P w K mg base CX0 3 fRM dRM ["points"] (spRem K) := ok_rem T.FRM GMT T.gMT T.kMT T.bMT T.len T.range T.tuple
  have GIR : FnOk P w K mg base CX0 3 fIR dIR ["points", "value"] (spIR K) := ok_IR T.FIR GNU T.gNU T.kNU T.bNU GMT T.gMT T.kMT T.bMT T.len
  have GTK : FnOk P w K mg base CX0 4 fTK dTK ["points", "place"] (spTk K) := ok_tk T.FTK GIR T.gIR T.kIR T.bIR (GRG.mono (by decide)) T.gRG T.kRG T.bRG T.tuple
  have GPB : FnOk P w K mg base CX0 3 fPB dPB ["rest", "reading"] spPB := ok_PB T.FPB GIL T.gIL T.kIL T.bIL GMT T.gMT T.kMT T.bMT (GRG.mono (by decide)) T.gRG T.kRG T.bRG T.len
  have GCN : FnOk P w K mg base CX0 4 fCN dCN ["load"] (spCo K) := ok_Co T.FCN GPB T.gPB T.kPB T.bPB
  have GIN : FnOk P w K mg base CX0 1 fIN dIN ["self", "cycles", "rest"] (spInit K C) := ok_init T.FIN T.cn T.sorted T.tuple
  have GOF : FnOk P w K mg base CX0 5 fOF dOF ["cls", "load"] (spOf K C) := ok_of T.FOF T.mkc (GIN.mono (by decide)) T.bIN GCN T.gCN T.kCN T.bCN
  have GPC : FnOk P w K mg base CX0 1 fPC dPC ["self"] (spPC C) := ok_PC T.FPC T.cn
  have GPR : FnOk P w K mg base CX0 1 fPR_ dPR_ ["self"] (spPR C) := ok_PR T.FPR_ T.cn
  have GTA : FnOk P w K mg base CX0 1 fTA dTA ["feed", "many"] spTake := ok_take T.FTA
  have GFE : FnOk P w K mg base CX0 1 fFE dFE ["script", "k"] (spFeed K) := ok_feed T.FFE T.len T.max T.abs
  have GPI : FnOk P w K mg base CX0 2 fPI dPI ["feed", "some"] (spPick K) := ok_pick T.FPI T.FTA T.gTA T.bTA T.len
  have GRO : FnOk P w K mg base CX0 1 fRO dRO [] spRo := ok_ro T.FRO
  have GMV : FnOk P w K mg base CX0 1 fMV dMV ["row", "far"] spMv := ok_mv T.FMV T.int T.tuple
  have GJN : FnR P w K mg base CX0 5 fJN (spJN C) := ok_JN T.FJN T.cn T.mkc T.gC (GIN.mono (by decide)) T.bIN GCN T.gCN T.kCN T.bCN T.prC (GPC.mono (by decide)) T.bPC T.prR (GPR.mono (by decide)) T.bPR_
  have GCO := GCO.mono (show 1 ≤ 5 by decide)
  have GRG := GRG.mono (show 1 ≤ 5 by decide)
  have GIL := GIL.mono (show 2 ≤ 5 by decide)
  have GTP := GTP.mono (show 3 ≤ 5 by decide)
  have GTQ := GTQ.mono (show 3 ≤ 5 by decide)
  have GCH := GCH.mono (show 1 ≤ 5 by decide)
  have GMT := GMT.mono (show 2 ≤ 5 by decide)
  have GNU := GNU.mono (show 1 ≤ 5 by decide)
  have GRM := GRM.mono (show 3 ≤ 5 by decide)
  have GIR := GIR.mono (show 3 ≤ 5 by decide)
  have GTK := GTK.mono (show 4 ≤ 5 by decide)
  have GPB := GPB.mono (show 3 ≤ 5 by decide)
  have GCN := GCN.mono (show 4 ≤ 5 by decide)
  have GIN := GIN.mono (show 1 ≤ 5 by decide)
  have GOF := GOF.mono (show 5 ≤ 5 by decide)
  have GPC := GPC.mono (show 1 ≤ 4 by decide)
  have GPR := GPR.mono (show 1 ≤ 4 by decide)
  have GTA := GTA.mono (show 1 ≤ 5 by decide)
  have GFE := GFE.mono (show 1 ≤ 5 by decide)
  have GPI := GPI.mono (show 2 ≤ 5 by decide)
  have GRO := GRO.mono (show 1 ≤ 5 by decide)
  have GMV := GMV.mono (show 1 ≤ 5 by decide)
  refine F.ok scOt (fun vs H Q E h => ?_) (fun cdv A outer s H vs Q E hr h => ?_)
  · obtain ⟨far, rfl, _⟩ := h
    rfl
  · obtain ⟨far, rfl, hq⟩ := h
    refine ⟨_, (pss_cons (ps_set (i := 1) scOt.nd rfl (.inl rfl) (pe_tup (pa_cons (pv 0) (pa_cons (pe_op op_add (pv 0) pe_int) (pa_cons (pv 0) (pa_cons (pe_op op_add (pv 0) pe_int) (pa_cons (pv 0) pa_nil)))))))
      (pss_cons (ps_if (PW.pt (pw_or (pt_cmpR (op_neD hr.units) (pe_call GRM hr (by rfl) T.gRM T.kRM T.bRM .nil pass0 (pa_cons (pe_callTy call_list_of (by rfl) T.list (by decide +kernel) (pa_cons (pv 1) pa_nil)) pa_nil)) (pe_tup (pa_cons pe_int (pa_cons pe_int pa_nil))) (nomark _)) (pw_or1 (pt_cmpR (op_neD hr.units) (pe_call GTK hr (by rfl) T.gTK T.kTK T.bTK .nil pass0 (pa_cons (pv 1) (pa_cons pe_int pa_nil))) (pe_tup (pa_cons (pe_tup (pa_cons (pv 0) (pa_cons (pe_op op_add (pv 0) pe_int) pa_nil))) (pa_cons (pe_slice sl_tup (pv 1) po_none (po_some pe_int)) pa_nil))) (nomark _))))) (pss_one (ps_ret pe_bl)) pss_nil)
      (pss_cons (ps_if (pt_cmpR op_ne (pe_call GCH hr (by rfl) T.gCH T.kCH T.bCH .nil pass0 (pa_cons (pe_lst (pa_cons (pv 0) (pa_cons (pe_op op_add (pv 0) pe_int) (pa_cons (pe_op op_add (pv 0) pe_int) (pa_cons (pe_op op_add (pv 0) pe_int) pa_nil))))) (pa_cons (pe_op op_add (pv 0) pe_int) (pa_cons (pe_op op_add (pv 0) pe_int) pa_nil)))) pe_int (nomark _)) (pss_one (ps_ret pe_bl)) pss_nil)
      (pss_cons (ps_par (i := 2) (j := 3) (by rfl) scOt.nd rfl rfl (by decide) rfl rfl (pa_cons (ClX.pe_cmeth (pe_glob (v := .ref C) (by rfl) T.gC rfl) T.rd T.cm (GOF.raw T.bOF .nil) hr pass0 (pa_cons (pe_lst (pa_cons (pv 0) (pa_cons (pe_op op_add (pv 0) pe_int) (pa_cons (pe_op op_add (pv 0) pe_int) (pa_cons (pe_op op_add (pv 0) pe_int) pa_nil))))) pa_nil)) (pa_cons (ClX.pe_cmeth (pe_glob (v := .ref C) (by rfl) T.gC rfl) T.rd T.cm (GOF.raw T.bOF .nil) hr pass0 (pa_cons (pe_lst (pa_cons (pe_op op_add (pv 0) pe_int) (pa_cons (pe_op op_add (pv 0) pe_int) pa_nil))) pa_nil)) pa_nil)) (by rfl))
      (pss_cons (ps_set (i := 4) scOt.nd rfl (.inl rfl) (SM.pe_smeth (pe_glob (v := .ref C) (by rfl) T.gC rfl) T.rd T.sj GJN hr pass0 (pa_cons (pv 2) (pa_cons (pv 3) pa_nil))))
      (pss_one (ps_ret (pe_and (pe_cmpR (op_eqD hr.units) (pe_prop (pv 4) T.cn.cl T.prC GPC hr T.bPC .nil pass0 (by rfl)) (pe_tup (pa_cons (pe_tup (pa_cons (pe_op op_add (pv 0) pe_int) (pa_cons (pe_op op_add (pv 0) pe_int) pa_nil))) pa_nil)) (nomark _)) (pe_one (pe_cmpR (op_eqD hr.units) (pe_prop (pv 4) T.cn.cl T.prR GPR hr T.bPR_ .nil pass0 (by rfl)) (pe_tup (pa_cons (pv 0) (pa_cons (pe_op op_add (pv 0) pe_int) (pa_cons (pe_op op_add (pv 0) pe_int) pa_nil)))) (nomark _))))))))))), ?_⟩
    have l1s : 1 ≤ sizeLine := by decide
    have l2s : 2 ≤ sizeLine := by decide
    have l3s : 3 ≤ sizeLine := by decide
    have l4s : 4 ≤ sizeLine := by decide
    have l5s : 5 ≤ sizeLine := by decide
    have zz5 := zz5_ far
    have tk2 := tk2_ far
    have epl := epl_ far
    -- equal
    refine ⟨.int far, rfl, .int far, rfl, far, 4, rfl, rfl, .int far, rfl, .int far, rfl, far, 4, rfl, rfl, .int far, rfl, l5s, fun e ne => ?_⟩
    refine KeyH.use (P := fun Hx => Same H Hx ∧ Hx e = some (.tup (([far, far + 4, far, far + 4, far] : List Int).map V.int))) _ ⟨same_new ne, upd_same⟩ fun H0 ⟨s1, e1⟩ => ?_
    refine ⟨.ref e, rfl, e, ([far, far + 4, far, far + 4, far] : List Int).map V.int, rfl, .inr (SqT.of e1), fun l nl => ?_⟩
    refine KeyH.use (P := fun Hx => Same H Hx ∧ Hx e = some (.tup (([far, far + 4, far, far + 4, far] : List Int).map V.int)) ∧ Hx l = some (.lst (([far, far + 4, far, far + 4, far] : List Int).map V.int))) _ ⟨s1.trans (same_new nl), (same_new nl) _ _ e1, upd_same⟩ fun H1 ⟨s2, e2, el⟩ => ?_
    clear nl s1 e1 ne
    refine ⟨l, [far, far + 4, far, far + 4, far], rfl, .inl (SqL.of el), zz5, by show 5 ≤ 2500; omega, fun H2 p s3 np ep => ⟨l2s, fun u nu => ?_⟩⟩
    rw [epl] at ep
    have su := same_new (o := .tup (([1, 2] : List Int).map V.int)) nu
    refine ⟨.tuple (dInts [1, 2]), .tuple (dInts [1, 2]), .tup (SqT.of (su _ _ ep)) (dp_ints _), .tup (SqT.of (xs := ([1, 2] : List Int).map V.int) upd_same) (dp_ints _), shaped_tup _, shaped_tup _, _, rfl, ?_⟩
    rw [eqv_same (shaped_tup _)]
    refine iteF ?_
    generalize hH3 : upd H2 u _ = H3
    have s4 : Same H H3 := by rw [← hH3]; exact s2.trans (s3.trans su)
    have e3 : H3 e = some (.tup (([far, far + 4, far, far + 4, far] : List Int).map V.int)) := by rw [← hH3]; exact su _ _ (s3 _ _ e2)
    clear hH3 su nu ep np s3 s2 el e2
    -- take
    refine ⟨.ref e, rfl, e, [far], [], far + 4, far, far + 4, far, 2, rfl, rfl, SqT.of e3, zz5, tk2, by show 5 ≤ 2500; omega, fun H4 p q1 q2 s5 np n1 n2 hp h1 h2 => ?_⟩
    rw [rg_up (show far < far + 4 by omega)] at h1
    refine ⟨.int far, rfl, .int far, rfl, far, 4, rfl, rfl, l2s, fun u nu => ?_⟩
    have su := same_new (o := .tup (([far, far + 4] : List Int).map V.int)) nu
    have eu := upd_same (H := H4) (a := u) (o := .tup (([far, far + 4] : List Int).map V.int))
    refine ⟨.ref e, rfl, 3, rfl, e, _, rfl, SqT.of (su _ _ (s5 _ _ e3)), notwhole far, fun v nv => ⟨l2s, fun w nw => ?_⟩⟩
    have sv := same_new (o := .tup (([far, far + 4, far] : List Int).map V.int)) nv
    have ev := upd_same (H := upd H4 u (.tup (([far, far + 4] : List Int).map V.int))) (a := v) (o := .tup (([far, far + 4, far] : List Int).map V.int))
    have sw := same_new (o := .tup [.ref u, .ref v]) nw
    have wall := su.trans (sv.trans sw)
    refine ⟨.tuple [.tuple (dInts [far, far + 4]), .tuple (dInts [far, far + 4, far])], .tuple [.tuple (dInts [far, far + 4]), .tuple (dInts [far, far + 4, far])], .tup (SqT.of (wall _ _ hp)) (.cons (.tup (SqT.of (xs := ([far, far + 4] : List Int).map V.int) (wall _ _ h1)) (dp_ints _)) (.cons (.tup (SqT.of (wall _ _ h2)) (dp_ints _)) .nil)), .tup (SqT.of (xs := [.ref u, .ref v]) upd_same) (.cons (.tup (SqT.of (sw _ _ (sv _ _ eu))) (dp_ints _)) (.cons (.tup (SqT.of (sw _ _ ev)) (dp_ints _)) .nil)), shaped2 _ _, shaped2 _ _, _, rfl, ?_⟩
    rw [eqv_same (shaped2 _ _)]
    refine iteF ?_
    generalize hH5 : upd (upd (upd H4 u _) v _) w _ = H5
    have s6 : Same H H5 := by rw [← hH5]; exact s4.trans (s5.trans wall)
    clear hH5 wall sw sv su ev eu nw nv nu h2 h1 hp n1 n2 np s5 s4 e3
    -- changes
    refine ⟨.int far, rfl, .int far, rfl, far, 6, rfl, rfl, .int far, rfl, far, 4, rfl, rfl, .int far, rfl, far, 10, rfl, rfl, l4s, fun l nl => ?_⟩
    refine ⟨.int far, rfl, far, 1, rfl, rfl, .int far, rfl, far, 9, rfl, rfl, ?_⟩
    refine ⟨l, [far, far + 6, far + 4, far + 10], far + 1, far + 9, rfl, SqL.of upd_same, by show 4 ≤ 3000; omega, fun H6 s7 => ⟨rfl, _, rfl, iteNS (congrArg V.int (by rw [chg_]; rfl)) ?_⟩⟩
    have s8 := s6.trans ((same_new nl).trans s7)
    clear s7 nl s6
    -- one, two
    refine ⟨rfl, .int far, rfl, .int far, rfl, far, 5, rfl, rfl, .int far, rfl, far, 3, rfl, rfl, .int far, rfl, far, 4, rfl, rfl, l4s, fun l nl => ?_⟩
    refine ⟨l, [far, far + 5, far + 3, far + 4], rfl, .inl (SqL.of upd_same), by show 4 ≤ 2500; omega, fun H7 x1 cs ds rs s9 nx ca run nf perm srt => ?_⟩
    obtain ⟨ed, er⟩ := K9.cn_one rfl (⟨⟨cs, run, perm⟩, nf, srt⟩ : Cn _ ds rs) (cn_one_ far)
    subst ed er
    have s10 := s8.trans ((same_new nl).trans s9)
    refine ⟨rfl, .int far, rfl, far, 6, rfl, rfl, .int far, rfl, far, 1, rfl, rfl, l2s, fun l2 nl2 => ?_⟩
    refine ⟨l2, [far + 6, far + 1], rfl, .inl (SqL.of upd_same), by show 2 ≤ 2500; omega, fun H8 x2 cs2 ds2 rs2 s11 nx2 ca2 run2 nf2 perm2 srt2 => ?_⟩
    obtain ⟨ed, er⟩ := K9.cn_one rfl (⟨⟨cs2, run2, perm2⟩, nf2, srt2⟩ : Cn _ ds2 rs2) (cn_two_ far)
    subst ed er
    have ca1 := ca.same ((same_new nl2).trans s11)
    have s12 := s10.trans ((same_new nl2).trans s11)
    refine ⟨.ref x1, .ref x2, rfl, ?_⟩
    refine ⟨rfl, .ref x1, rfl, .ref x2, rfl, [([], [far, far + 5, far + 3, far + 4]), ([], [far + 6, far + 1])], ⟨⟨x1, rfl, ca1⟩, ⟨x2, rfl, ca2⟩, trivial⟩, by show 2 ≤ 100; omega, by show 6 ≤ 2400; omega, by show 0 ≤ 1500; omega, fun H9 y ds3 rs3 cs3 s13 ny cy run3 nf3 perm3 srt3 => ?_⟩
    obtain ⟨ed, er⟩ := K9.cn_one rfl (⟨⟨cs3, run3, perm3⟩, nf3, srt3⟩ : Cn [far, far + 5, far + 3, far + 4, far + 6, far + 1] ds3 rs3) (cn_both_ far)
    subst ed er
    obtain ⟨dy, k1, k2, hy⟩ := sat2 cy
    refine ⟨.ref y, rfl, y, dy, _, rfl, hy, y, _, _, rfl, cy, fun t1 ys1 ht1 pa1 => ?_⟩
    refine ⟨.int far, rfl, far, 3, rfl, rfl, .int far, rfl, far, 5, rfl, rfl, l2s, fun u nu => ⟨l1s, fun v nv => ?_⟩⟩
    have su := same_new (o := .tup [.int (far + 3), .int (far + 5)]) nu
    have eu := upd_same (H := H9) (a := u) (o := .tup [.int (far + 3), .int (far + 5)])
    have sv := same_new (o := .tup [.ref u]) nv
    refine ⟨.tuple (dPairs [(far + 3, far + 5)]), .tuple (dPairs [(far + 3, far + 5)]), .tup (SqT.of ((su.trans sv) _ _ ht1)) (dp_pairs (pa1.same (su.trans sv))), .tup (SqT.of (xs := [.ref u]) upd_same) (dp_pairs (rs := [(far + 3, far + 5)]) ⟨⟨u, rfl, sv _ _ eu⟩, trivial⟩), shaped_tpr _, shaped_tpr _, _, rfl, ?_⟩
    rw [eqv_same (shaped_tpr _)]
    refine iteT ?_
    have sx := su.trans sv
    refine ⟨.ref y, rfl, y, dy, _, rfl, sx _ _ hy, y, _, _, rfl, cy.same sx, fun t2 ht2 => ?_⟩
    refine ⟨.int far, rfl, .int far, rfl, far, 6, rfl, rfl, .int far, rfl, far, 1, rfl, rfl, l3s, fun w nw => ?_⟩
    have sw := same_new (o := .tup (([far, far + 6, far + 1] : List Int).map V.int)) nw
    refine ⟨.tuple (dInts [far, far + 6, far + 1]), .tuple (dInts [far, far + 6, far + 1]), .tup (SqT.of (sw _ _ ht2)) (dp_ints _), .tup (SqT.of (xs := ([far, far + 6, far + 1] : List Int).map V.int) upd_same) (dp_ints _), shaped_tup _, shaped_tup _, ?_⟩
    rw [eqv_same (shaped_tup _)]
    exact hq _ (s12.trans (s13.trans (sx.trans sw)))
def spLg : Sp := fun vs H Q _ => ∃ far : Int, vs = [.int far] ∧ ∀ H', Same H H' → Q (.bl true) H'
theorem ok_lg {f0 : Addr} {fd : FuncData} (F : Fun K "_law_long_right" "_law_long_right" sLg f0 fd) (T : Txt K mg fCO fRG fTP fIL fBT fCH fNU fRM fTK fIR fMT fPB fCN fFE fTA fPI fRO fMV fOT fLG C fIN pO fOF fJN pC fPC pR fPR_ dCO dRG dTP dIL dBT dCH dNU dRM dTK dIR dMT dPB dCN dFE dTA dPI dRO dMV dOT dLG dIN dOF dJN dPC dPR_) : FnOk P w K mg base CX0 6 f0 fd ["far"] spLg := by
  have GCO : FnOk P w K mg base CX0 1 fCO dCO ["outer", "inner"] (spCont K) := ok_Cont T.FCO
  have GRG : FnOk P w K mg base CX0 1 fRG dRG ["one", "other"] spRng := ok_Rng T.FRG T.min T.max
  have GIL : FnOk P w K mg base CX0 2 fIL dIL ["points", "reading"] (spLO K) := ok_LO T.FIL T.FBT T.gBT T.bBT T.len
  have GTP : FnOk P w K mg base CX0 3 fTP dTP ["load"] (spTP K) := both (ok_TPl T.FTP GIL T.gIL T.kIL T.bIL T.tuple) (ok_TPt T.FTP GIL T.gIL T.kIL T.bIL T.tuple)
  have GTQ : FnOk P w K mg base CX0 3 fTP dTP ["load"] (spTPq K) := tpq_of GTP
  have GCH : FnOk P w K mg base CX0 1 fCH dCH ["load", "low", "high"] (spCh K) := ok_ch T.FCH T.len T.zip
  have GMT : FnOk P w K mg base CX0 2 fMT dMT ["points", "place"] (spMT K) := ok_MT T.FMT T.abs
  have GNU : FnOk P w K mg base CX0 1 fNU dNU ["value"] spNum := ok_Num T.FNU T.isinstance T.int T.bool
  have GRM : FnOk P w K mg base CX0 3 fRM dRM ["points"] (spRem K) := ok_rem T.FRM GMT T.gMT T.kMT T.bMT T.len T.range T.tuple
  have GIR : FnOk P w K mg base CX0 3 fIR dIR ["points", "value"] (spIR K) := ok_IR T.FIR GNU T.gNU T.kNU T.bNU GMT T.gMT T.kMT T.bMT T.len
  have GTK : FnOk P w K mg base CX0 4 fTK dTK ["points", "place"] (spTk K) := ok_tk T.FTK GIR T.gIR T.kIR T.bIR (GRG.mono (by decide)) T.gRG T.kRG T.bRG T.tuple
  have GPB : FnOk P w K mg base CX0 3 fPB dPB ["rest", "reading"] spPB := ok_PB T.FPB GIL T.gIL T.kIL T.bIL GMT T.gMT T.kMT T.bMT (GRG.mono (by decide)) T.gRG T.kRG T.bRG T.len
  have GCN : FnOk P w K mg base CX0 4 fCN dCN ["load"] (spCo K) := ok_Co T.FCN GPB T.gPB T.kPB T.bPB
  have GIN : FnOk P w K mg base CX0 1 fIN dIN ["self", "cycles", "rest"] (spInit K C) := ok_init T.FIN T.cn T.sorted T.tuple
  have GOF : FnOk P w K mg base CX0 5 fOF dOF ["cls", "load"] (spOf K C) := ok_of T.FOF T.mkc (GIN.mono (by decide)) T.bIN GCN T.gCN T.kCN T.bCN
  have GPC : FnOk P w K mg base CX0 1 fPC dPC ["self"] (spPC C) := ok_PC T.FPC T.cn
  have GPR : FnOk P w K mg base CX0 1 fPR_ dPR_ ["self"] (spPR C) := ok_PR T.FPR_ T.cn
  have GTA : FnOk P w K mg base CX0 1 fTA dTA ["feed", "many"] spTake := ok_take T.FTA
  have GFE : FnOk P w K mg base CX0 1 fFE dFE ["script", "k"] (spFeed K) := ok_feed T.FFE T.len T.max T.abs
  have GPI : FnOk P w K mg base CX0 2 fPI dPI ["feed", "some"] (spPick K) := ok_pick T.FPI T.FTA T.gTA T.bTA T.len
  have GRO : FnOk P w K mg base CX0 1 fRO dRO [] spRo := ok_ro T.FRO
  have GMV : FnOk P w K mg base CX0 1 fMV dMV ["row", "far"] spMv := ok_mv T.FMV T.int T.tuple
  have GJN : FnR P w K mg base CX0 5 fJN (spJN C) := ok_JN T.FJN T.cn T.mkc T.gC (GIN.mono (by decide)) T.bIN GCN T.gCN T.kCN T.bCN T.prC (GPC.mono (by decide)) T.bPC T.prR (GPR.mono (by decide)) T.bPR_
  have GCO := GCO.mono (show 1 ≤ 5 by decide)
  have GRG := GRG.mono (show 1 ≤ 5 by decide)
  have GIL := GIL.mono (show 2 ≤ 5 by decide)
  have GTP := GTP.mono (show 3 ≤ 5 by decide)
  have GTQ := GTQ.mono (show 3 ≤ 5 by decide)
  have GCH := GCH.mono (show 1 ≤ 5 by decide)
  have GMT := GMT.mono (show 2 ≤ 5 by decide)
  have GNU := GNU.mono (show 1 ≤ 5 by decide)
  have GRM := GRM.mono (show 3 ≤ 5 by decide)
  have GIR := GIR.mono (show 3 ≤ 5 by decide)
  have GTK := GTK.mono (show 4 ≤ 5 by decide)
  have GPB := GPB.mono (show 3 ≤ 5 by decide)
  have GCN := GCN.mono (show 4 ≤ 5 by decide)
  have GIN := GIN.mono (show 1 ≤ 5 by decide)
  have GOF := GOF.mono (show 5 ≤ 5 by decide)
  have GPC := GPC.mono (show 1 ≤ 4 by decide)
  have GPR := GPR.mono (show 1 ≤ 4 by decide)
  have GTA := GTA.mono (show 1 ≤ 5 by decide)
  have GFE := GFE.mono (show 1 ≤ 5 by decide)
  have GPI := GPI.mono (show 2 ≤ 5 by decide)
  have GRO := GRO.mono (show 1 ≤ 5 by decide)
  have GMV := GMV.mono (show 1 ≤ 5 by decide)
  refine F.ok scLg (fun vs H Q E h => ?_) (fun cdv A outer s H vs Q E hr h => ?_)
  · obtain ⟨far, rfl, _⟩ := h
    rfl
  · obtain ⟨far, rfl, hq⟩ := h
    refine ⟨_, (pss_cons (ps_set (i := 1) scLg.nd rfl (.inl rfl) (ClX.pe_cmeth (pe_glob (v := .ref C) (by rfl) T.gC rfl) T.rd T.cm (GOF.raw T.bOF .nil) hr pass0 (pa_cons (pe_op op_rep (pe_lst (pa_cons (pv 0) (pa_cons (pe_op op_sub (pv 0) pe_int) pa_nil))) pe_int) pa_nil)))
      (pss_cons (ps_if (PW.pt (pw_or (pt_cmpR (op_neD hr.units) (pe_prop (pv 1) T.cn.cl T.prC GPC hr T.bPC .nil pass0 (by rfl)) (pe_op GT0.op_repA (pe_tup (pa_cons (pe_tup (pa_cons (pe_op op_sub (pv 0) pe_int) (pa_cons (pv 0) pa_nil))) pa_nil)) pe_int) (nomark _)) (pw_or1 (pt_cmpR (op_neD hr.units) (pe_prop (pv 1) T.cn.cl T.prR GPR hr T.bPR_ .nil pass0 (by rfl)) (pe_tup (pa_cons (pv 0) (pa_cons (pe_op op_sub (pv 0) pe_int) pa_nil))) (nomark _))))) (pss_one (ps_ret pe_bl)) pss_nil)
      (pss_cons (ps_par (i := 2) (j := 3) (by rfl) scLg.nd rfl rfl (by decide) rfl rfl (pa_cons (pe_lst pa_nil) (pa_cons (pe_lst pa_nil) pa_nil)) (by rfl))
      (pss_cons (ps_for PassesOwn.never rfl (pi_range3 (by rfl) T.range (pa_cons pe_int (pa_cons pe_int (pa_cons (pe_un un_neg pe_int) pa_nil)))) (pg_name (i := 4) scLg.nd rfl (.inl rfl))
      (pss_cons (ps_set (i := 2) scLg.nd rfl (.inl rfl) (pe_op op_cat (pv 2) (pe_lst (pa_cons (pe_op op_add (pe_op op_sub (pv 0) pe_int) (pv 4)) (pa_cons (pe_op op_sub (pe_op op_sub (pv 0) pe_int) (pv 4)) pa_nil)))))
      (pss_one (ps_expr (pe_bm PySem.F.plainAttrs_list PySem.F.slot_list_append PySem.F.type_list_append mt_append (pv 3) (pa_cons (pe_tup (pa_cons (pe_op op_sub (pe_op op_sub (pv 0) pe_int) (pv 4)) (pa_cons (pe_op op_add (pe_op op_sub (pv 0) pe_int) (pv 4)) pa_nil))) pa_nil))))))
      (pss_cons (ps_if (PW.pt (pw_or (pt_cmpR (op_neD hr.units) (pe_prop (ClX.pe_cmeth (pe_glob (v := .ref C) (by rfl) T.gC rfl) T.rd T.cm (GOF.raw T.bOF .nil) hr pass0 (pa_cons (pv 2) pa_nil)) T.cn.cl T.prC GPC hr T.bPC .nil pass0 (by rfl)) (pe_tup pa_nil) (nomark _)) (pw_or1 (pt_cmpR (op_neD hr.units) (pe_prop (ClX.pe_cmeth (pe_glob (v := .ref C) (by rfl) T.gC rfl) T.rd T.cm (GOF.raw T.bOF .nil) hr pass0 (pa_cons (pv 2) pa_nil)) T.cn.cl T.prR GPR hr T.bPR_ .nil pass0 (by rfl)) (pe_callTy call_tuple_of (by rfl) T.tuple (by decide +kernel) (pa_cons (pv 2) pa_nil)) (nomark _))))) (pss_one (ps_ret pe_bl)) pss_nil)
      (pss_cons (ps_set (i := 1) scLg.nd rfl (.inl rfl) (ClX.pe_cmeth (pe_glob (v := .ref C) (by rfl) T.gC rfl) T.rd T.cm (GOF.raw T.bOF .nil) hr pass0 (pa_cons (pe_op op_cat (pv 2) (pe_lst (pa_cons (pv 0) pa_nil))) pa_nil)))
      (pss_one (ps_ret (pe_and (pe_cmpR (op_eqD hr.units) (pe_prop (pv 1) T.cn.cl T.prC GPC hr T.bPC .nil pass0 (by rfl)) (pe_callTy call_tuple_of (by rfl) T.tuple (by decide +kernel) (pa_cons (pe_slice sl_list (pv 3) (po_some pe_int) po_none) pa_nil)) (nomark _)) (pe_one (pe_cmpR (op_eqD hr.units) (pe_prop (pv 1) T.cn.cl T.prR GPR hr T.bPR_ .nil pass0 (by rfl)) (pe_tup (pa_cons (pe_op op_sub (pv 0) pe_int) (pa_cons (pe_op op_sub (pv 0) pe_int) (pa_cons (pv 0) pa_nil)))) (nomark _)))))))))))), ?_⟩
    have l0s : 0 ≤ sizeLine := by decide
    have l1s : 1 ≤ sizeLine := by decide
    have l2s : 2 ≤ sizeLine := by decide
    have l3s : 3 ≤ sizeLine := by decide
    refine ⟨rfl, .int far, rfl, .int far, rfl, far, 1, rfl, rfl, l2s, fun l nl => ?_⟩
    refine ⟨l, 1000, [.int far, .int (far - 1)], rfl, rfl, upd_same, by decide, by decide, by show 2 * 1000 ≤ sizeLine; decide, fun z nz => ?_⟩
    rw [rep_fro]
    refine KeyH.use (P := fun Hx => Same H Hx ∧ Hx z = some (.lst (((RK.fro 1 1000).map (far - ·)).map V.int))) _ ⟨(same_new nl).trans (same_new nz), upd_same⟩ fun H1 ⟨s1, ez⟩ => ?_
    clear nz nl
    have fl : ((RK.fro 1 1000).map (far - ·)).length = 2000 := by rw [List.length_map, RK.fro_len]
    refine ⟨z, _, rfl, .inl (SqL.of ez), by rw [fl]; omega, fun H2 x cs ds rs s2 nx ca run nf perm srt => ?_⟩
    obtain ⟨ed, er⟩ := K9.cn_one rfl (⟨⟨cs, run, perm⟩, nf, srt⟩ : Cn _ ds rs) (cn_to far)
    subst ed er
    have s12 := s1.trans s2
    clear run nf perm srt nx s2 ez s1
    obtain ⟨dx, k1, k2, hx⟩ := sat2 ca
    refine ⟨.ref x, rfl, x, dx, _, rfl, hx, x, _, _, rfl, ca, fun t1 ys1 ht1 pa1 => ?_⟩
    refine ⟨.int far, rfl, far, 1, rfl, rfl, .int far, rfl, l2s, fun u nu => ⟨l1s, fun v nv => ?_⟩⟩
    have su := same_new (o := .tup [.int (far - 1), .int far]) nu
    have eu := upd_same (H := H2) (a := u) (o := .tup [.int (far - 1), .int far])
    have sv := same_new (o := .tup [.ref u]) nv
    refine .inl ⟨v, 999, [.ref u], rfl, rfl, SqT.of upd_same, by simp, by decide, by decide, by show 1 ≤ 1000; omega, fun t nt => ?_⟩
    have st := same_new (o := .tup (List.replicate (999 : Int).toNat [V.ref u]).flatten) nt
    have wall := su.trans (sv.trans st)
    refine ⟨.tuple (dPairs (List.replicate 999 (far - 1, far))), .tuple (dPairs (List.replicate 999 (far - 1, far))), .tup (SqT.of (wall _ _ ht1)) (dp_pairs (pa1.same wall)), .tup (SqT.of upd_same) (dp_pairs (pairs_rep ((sv.trans st) _ _ eu) 999)), shaped_tpr _, shaped_tpr _, _, rfl, ?_⟩
    rw [eqv_same (shaped_tpr _)]
    refine iteF ?_
    generalize hH3 : upd (upd (upd H2 u _) v _) t _ = H3
    have s3 : Same H2 H3 := by rw [← hH3]; exact wall
    clear hH3 wall st sv su eu nt nv nu ht1 pa1
    refine ⟨.ref x, rfl, x, dx, _, rfl, s3 _ _ hx, x, _, _, rfl, ca.same s3, fun t2 ht2 => ?_⟩
    refine ⟨.int far, rfl, .int far, rfl, far, 1, rfl, rfl, l2s, fun u nu => ?_⟩
    have su := same_new (o := .tup (([far, far - 1] : List Int).map V.int)) nu
    refine ⟨.tuple (dInts [far, far - 1]), .tuple (dInts [far, far - 1]), .tup (SqT.of (su _ _ ht2)) (dp_ints _), .tup (SqT.of (xs := ([far, far - 1] : List Int).map V.int) upd_same) (dp_ints _), shaped_tup _, shaped_tup _, _, rfl, ?_⟩
    rw [eqv_same (shaped_tup _)]
    refine iteF ?_
    generalize hH4 : upd H3 u _ = H4
    have s4 : Same H H4 := by rw [← hH4]; exact s12.trans (s3.trans su)
    clear hH4 su nu ht2 s3 hx ca s12
    -- narrowing
    refine ⟨l0s, fun L nL => ⟨l0s, fun D nD => ⟨.ref L, .ref D, rfl, ?_⟩⟩⟩
    have nLD : L ≠ D := fun z => by rw [z, upd_same] at nD <;> cases nD
    have sL := same_new (o := .lst []) nL
    have nD4 : H4 D = none := sL.free nD
    have rg0 : RgC 51 0 (-1) 51 := by
      have h := @RgC.neg 51 0
      apply h <;> decide
    refine ⟨1, rfl, 51, 0, -1, 51, rfl, rg0, for_rangeC (lo := 51) (c := -1) (n := 51) (fun i σ Hx => Same H4 Hx ∧ ∃ (L : Addr) (xs : List V), Hx L = some (.lst (((RK.nar 51 i).map (· + (far - 100))).map V.int)) ∧ Hx D = some (.lst xs) ∧ PairsAt Hx xs ((RK.due 51 i).map (mv (far - 100))) ∧ L ≠ D ∧ ∃ r1 r4 : Option V, σ = [some (.int far), r1, some (.ref L), some (.ref D), r4]) ⟨sL.trans (same_new nD), L, [], by rw [upd_ne nLD]; exact upd_same, upd_same, trivial, nLD, _, _, rfl⟩ ?_ ?_⟩
    · rintro i σ Hx hi ⟨sx, L2, xs, eL, eD, pa, nLD2, r1, r4, rfl⟩
      have ev : (51 : Int) + (i : Nat) * (-1) = 51 - (i : Nat) := by omega
      rw [ev]
      have nl := RK.nar_len 51 i
      refine ⟨.ref L2, rfl, .int far, rfl, far, 100, rfl, rfl, .int (51 - (i : Nat)), rfl, _, _, rfl, rfl, .int far, rfl, far, 100, rfl, rfl, .int (51 - (i : Nat)), rfl, _, _, rfl, rfl, l2s, fun l nlz => ?_⟩
      have sl := same_new (o := .lst (([51 - (i : Int) + (far - 100), -(51 - (i : Int)) + (far - 100)] : List Int).map V.int)) nlz
      have e1 : far - 100 + (51 - (i : Int)) = 51 - (i : Int) + (far - 100) := by omega
      have e2 : far - 100 - (51 - (i : Int)) = -(51 - (i : Int)) + (far - 100) := by omega
      generalize hH5 : upd Hx l _ = H5
      have f1 : Same Hx H5 := by rw [← hH5]; exact same_new nlz
      have f2 : H5 l = some (.lst (([51 - (i : Int) + (far - 100), -(51 - (i : Int)) + (far - 100)] : List Int).map V.int)) := by
        rw [← hH5, upd_same]
        show some (HO.lst [V.int (far - 100 + (51 - (i : Int))), V.int (far - 100 - (51 - (i : Int)))]) = _
        rw [e1, e2]
        rfl
      clear sl hH5 nlz
      refine ⟨L2, l, _, _, rfl, rfl, f1 _ _ eL, f2, Nat.le_of_lt (small3000 (by rw [List.length_map, List.length_map, nl]; show 2 * i + 2 ≤ 3000; omega)), fun z nz => ?_⟩
      rw [← List.map_append]
      have e3 : (RK.nar 51 i).map (· + (far - 100)) ++ [51 - (i : Int) + (far - 100), -(51 - (i : Int)) + (far - 100)] = (RK.nar 51 (i + 1)).map (· + (far - 100)) := by
        show _ = (RK.nar 51 i ++ [51 - (i : Int), -(51 - (i : Int))]).map (· + (far - 100))
        rw [List.map_append]
        rfl
      rw [e3]
      have sz := same_new (o := .lst (((RK.nar 51 (i + 1)).map (· + (far - 100))).map V.int)) nz
      have nzD : z ≠ D := fun w => by rw [w, f1 _ _ eD] at nz; cases nz
      have ez := upd_same (H := H5) (a := z) (o := .lst (((RK.nar 51 (i + 1)).map (· + (far - 100))).map V.int))
      have w5 := f1.trans sz
      generalize upd H5 z (.lst (((RK.nar 51 (i + 1)).map (· + (far - 100))).map V.int)) = H6 at sz ez w5 ⊢
      refine ⟨.ref D, rfl, .inl ⟨rfl, _, SqL.of (w5 _ _ eD)⟩, .int far, rfl, far, 100, rfl, rfl, .int (51 - (i : Nat)), rfl, _, _, rfl, rfl, .int far, rfl, far, 100, rfl, rfl, .int (51 - (i : Nat)), rfl, _, _, rfl, rfl, l2s, fun q nq => ?_⟩
      generalize hH7 : upd H6 q _ = H7
      have g1 : Same H6 H7 := by rw [← hH7]; exact same_new nq
      have g2 : H7 q = some (.tup [.int (0 - (51 - (i : Int)) + (far - 100)), .int (51 - (i : Int) + (far - 100))]) := by
        rw [← hH7, upd_same]
        show some (HO.tup [V.int (far - 100 - (51 - (i : Int))), V.int (far - 100 + (51 - (i : Int)))]) = _
        rw [e1, e2, Int.zero_sub]
      have nqD : q ≠ D := fun w => by rw [w, w5 _ _ eD] at nq; cases nq
      have pl := pa.length
      have dl : (RK.due 51 i).length = i := by unfold RK.due; rw [List.length_map, List.length_range]
      rw [List.length_map, dl] at pl
      have w7 := w5.trans g1
      refine ⟨D, xs, .ref q, rfl, rfl, w7 _ _ eD, small3000 (by omega), same_again nD4 (sx.trans w7), z, xs ++ [.ref q], by rw [upd_ne nzD]; exact g1 _ _ ez, upd_same, ?_, nzD, _, _, rfl⟩
      rw [RK.due_succ, List.map_append]
      exact PairsAt.append (pairs_upd (w7 _ _ eD) (pa.same w7)) ⟨⟨q, rfl, by rw [upd_ne nqD]; exact g2⟩, trivial⟩
    rintro σ H5 ⟨s5, L2, xs, eL, eD, pa, _, r1, r4, rfl⟩
    have nl := RK.nar_len 51 51
    have ll : ((RK.nar 51 51).map (· + (far - 100))).length = 102 := by rw [List.length_map, nl]
    have cnN := cn_mv (RK.cn_nar 51 51 (Int.le_refl _)) (fun c hc => (List.not_mem_nil hc).elim) (far - 100)
    have s05 := s4.trans s5
    clear s5 s4 sL nD nL nD4 nLD rg0
    refine ⟨rfl, .ref L2, rfl, L2, _, rfl, .inl (SqL.of eL), by rw [ll]; omega, fun H6 x6 cs ds rs s6 nx ca run nf perm srt => ?_⟩
    obtain ⟨ed, er⟩ := K9.cn_one rfl (⟨⟨cs, run, perm⟩, nf, srt⟩ : Cn _ ds rs) cnN
    subst ed er
    obtain ⟨d6, k1, k2, hx6⟩ := sat2 ca
    refine ⟨x6, d6, _, rfl, hx6, x6, _, _, rfl, ca, fun t1 ys1 ht1 pa1 => ⟨l0s, fun u nu => ?_⟩⟩
    have su := same_new (o := .tup []) nu
    refine ⟨.tuple (dPairs []), .tuple (dPairs []), .tup (SqT.of (su _ _ ht1)) (dp_pairs (rs := []) (pa1.same su)), .tup (SqT.of upd_same) (dp_pairs (rs := []) (xs := []) trivial), shaped_tpr _, shaped_tpr _, _, rfl, ?_⟩
    rw [eqv_same (shaped_tpr _)]
    refine iteF ?_
    have w6 := s6.trans su
    generalize hH7 : upd H6 u _ = H7 at w6 ⊢
    have eL7 := w6 _ _ eL
    refine ⟨rfl, .ref L2, rfl, L2, _, rfl, .inl (SqL.of eL7), by rw [ll]; omega, fun H8 x8 cs8 ds8 rs8 s8 nx8 ca8 run8 nf8 perm8 srt8 => ?_⟩
    obtain ⟨ed, er⟩ := K9.cn_one rfl (⟨⟨cs8, run8, perm8⟩, nf8, srt8⟩ : Cn _ ds8 rs8) cnN
    subst ed
    rw [er] at ca8
    obtain ⟨d8, k3, k4, hx8⟩ := sat2 ca8
    refine ⟨x8, d8, _, rfl, hx8, x8, _, _, rfl, ca8, fun t2 ht2 => ?_⟩
    refine ⟨.ref L2, rfl, L2, _, rfl, .inl ⟨SqL.of (s8 _ _ eL7), fun v nv => ?_⟩⟩
    have sv := same_new (o := .tup (((RK.nar 51 51).map (· + (far - 100))).map V.int)) nv
    refine ⟨.tuple (dInts ((RK.nar 51 51).map (· + (far - 100)))), .tuple (dInts ((RK.nar 51 51).map (· + (far - 100)))), .tup (SqT.of (sv _ _ ht2)) (dp_ints _), .tup (SqT.of upd_same) (dp_ints _), shaped_tup _, shaped_tup _, _, rfl, ?_⟩
    rw [eqv_same (shaped_tup _)]
    refine iteF ?_
    have w8 := w6.trans (s8.trans sv)
    generalize hH9 : upd H8 v _ = H9 at w8 ⊢
    have eL9 := w8 _ _ eL
    have eD9 := w8 _ _ eD
    have pa9 := pa.same w8
    have s09 := s05.trans w8
    clear hH9 hH7
    -- the last
    refine ⟨rfl, .ref L2, rfl, .int far, rfl, l1s, fun l nlz => ?_⟩
    have sl := same_new (o := .lst (([far] : List Int).map V.int)) nlz
    refine ⟨L2, l, _, _, rfl, rfl, sl _ _ eL9, upd_same (o := .lst (([far] : List Int).map V.int)), Nat.le_of_lt (small3000 (by rw [List.length_map, ll]; show 102 + 1 ≤ 3000; omega)), fun z nz => ?_⟩
    rw [← List.map_append]
    have ef : (RK.nar 51 51).map (· + (far - 100)) ++ [far] = (RK.nar 51 51 ++ [100]).map (· + (far - 100)) := by
      rw [List.map_append]
      show _ = _ ++ [100 + (far - 100)]
      rw [show 100 + (far - 100) = far by omega]
    rw [ef]
    have sz := same_new (o := .lst (((RK.nar 51 51 ++ [100]).map (· + (far - 100))).map V.int)) nz
    have wz := sl.trans sz
    have lz : ((RK.nar 51 51 ++ [100]).map (· + (far - 100))).length = 103 := by rw [List.length_map, List.length_append, nl]; rfl
    refine ⟨z, _, rfl, .inl (SqL.of upd_same), by rw [lz]; omega, fun H10 x10 cs10 ds10 rs10 s10 nx10 ca10 run10 nf10 perm10 srt10 => ?_⟩
    have cnZ := cn_mv (cn_close 51 (by decide) 100 (by decide)) due_lt (far - 100)
    rw [last3_] at cnZ
    obtain ⟨ed, er⟩ := K9.cn_one rfl (⟨⟨cs10, run10, perm10⟩, nf10, srt10⟩ : Cn _ ds10 rs10) cnZ
    rw [ed, er] at ca10
    clear run10 nf10 perm10 srt10 ed er
    have w10 := wz.trans s10
    obtain ⟨d10, k5, k6, hx10⟩ := sat2 ca10
    refine ⟨.ref x10, rfl, x10, d10, _, rfl, hx10, x10, _, _, rfl, ca10, fun t3 ys3 ht3 pa3 => ?_⟩
    refine ⟨.ref D, rfl, 1, rfl, D, xs, rfl, SqL.of (w10 _ _ eD9), fun l2 nl2 => ?_⟩
    rw [show (some (1 : Int)) = some ((1 : Nat) : Int) from rfl, cutv_from]
    have sl2 := same_new (o := .lst (xs.drop 1)) nl2
    refine ⟨l2, _, rfl, .inl ⟨SqL.of upd_same, fun u nu => ?_⟩⟩
    have su := same_new (o := .tup (xs.drop 1)) nu
    have wu := sl2.trans su
    have pd : PairsAt H10 (xs.drop 1) (((RK.due 51 51).drop 1).map (mv (far - 100))) := by
      rw [List.map_drop]
      exact PairsAt.drop1 (pa9.same w10)
    refine ⟨.tuple (dPairs (((RK.due 51 51).drop 1).map (mv (far - 100)))), .tuple (dPairs (((RK.due 51 51).drop 1).map (mv (far - 100)))), .tup (SqT.of (wu _ _ ht3)) (dp_pairs (pa3.same wu)), .tup (SqT.of upd_same) (dp_pairs (pd.same wu)), shaped_tpr _, shaped_tpr _, _, rfl, ?_⟩
    rw [eqv_same (shaped_tpr _)]
    refine iteT ?_
    refine ⟨.ref x10, rfl, x10, d10, _, rfl, wu _ _ hx10, x10, _, _, rfl, ca10.same wu, fun t4 ht4 => ?_⟩
    refine ⟨.int far, rfl, far, 49, rfl, rfl, .int far, rfl, far, 151, rfl, rfl, .int far, rfl, l3s, fun v nv => ?_⟩
    have sv := same_new (o := .tup (([far - 49, far - 151, far] : List Int).map V.int)) nv
    refine ⟨.tuple (dInts [far - 49, far - 151, far]), .tuple (dInts [far - 49, far - 151, far]), .tup (SqT.of (sv _ _ ht4)) (dp_ints _), .tup (SqT.of (xs := ([far - 49, far - 151, far] : List Int).map V.int) upd_same) (dp_ints _), shaped_tup _, shaped_tup _, ?_⟩
    rw [eqv_same (shaped_tup _)]
    exact hq _ (s09.trans (w10.trans (wu.trans sv)))
end
end I1V

set_option pp.maxSteps 900
/-! k10's law -/
namespace I1L
open PySem PySem.Spec PyProof.Rows L2 KA KD PH PM PA PB PC RM RN RC RS QE QF QG QH QJ RJ UJN I1M
open K9 (Cn cn_one)
open I1R I1V
abbrev sLaw : Stmt := topS 33
theorem scLaw : FnScope ["script", "k", "feed", "far", "row", "load", "cycles", "rest", "count"] ["script"] (defScope I1L.sLaw) := ⟨rfl, rfl, rfl, by decide +kernel, rfl, by decide +kernel, by decide +kernel⟩
section
variable {P : Program} {w : World} {K : PySem.W.Frag} {mg : Str → Option Value} {base : Heap} {fCO fRG fTP fIL fBT fCH fNU fRM fTK fIR fMT fPB fCN fFE fTA fPI fRO fMV fOT fLG C fIN pO fOF fJN pC fPC pR fPR_ : Addr} {dCO dRG dTP dIL dBT dCH dNU dRM dTK dIR dMT dPB dCN dFE dTA dPI dRO dMV dOT dLG dIN dOF dJN dPC dPR_ : FuncData}
def spLaw (K : PySem.W.Frag) : Sp := fun vs H Q _ => ∃ (a : Addr) (ns : List Int), vs = [.ref a] ∧ SqL K H a (ns.map V.int) ∧ ns.length ≤ 63 ∧ ∀ H', Q (.bl true) H'
theorem len_law {K : PySem.W.Frag} : ∀ vs H Q E, (spLaw K) vs H Q E → vs.length = (["script"] : List Str).length := fun vs H Q E h => by
  obtain ⟨a, ns, rfl, _⟩ := h
  rfl
theorem ok_law {f0 : Addr} {fd : FuncData} (F : Fun K "law" "law" I1L.sLaw f0 fd) (T : Txt K mg fCO fRG fTP fIL fBT fCH fNU fRM fTK fIR fMT fPB fCN fFE fTA fPI fRO fMV fOT fLG C fIN pO fOF fJN pC fPC pR fPR_ dCO dRG dTP dIL dBT dCH dNU dRM dTK dIR dMT dPB dCN dFE dTA dPI dRO dMV dOT dLG dIN dOF dJN dPC dPR_) : KW.Kept P w K mg base 7 f0 fd ["script"] (spLaw K) := by
  have GCO : FnOk P w K mg base CX0 1 fCO dCO ["outer", "inner"] (spCont K) := ok_Cont T.FCO
  have GRG : FnOk P w K mg base CX0 1 fRG dRG ["one", "other"] spRng := ok_Rng T.FRG T.min T.max
  have GIL : FnOk P w K mg base CX0 2 fIL dIL ["points", "reading"] (spLO K) := ok_LO T.FIL T.FBT T.gBT T.bBT T.len
  have GTP : FnOk P w K mg base CX0 3 fTP dTP ["load"] (spTP K) := both (ok_TPl T.FTP GIL T.gIL T.kIL T.bIL T.tuple) (ok_TPt T.FTP GIL T.gIL T.kIL T.bIL T.tuple)
  have GTQ : FnOk P w K mg base CX0 3 fTP dTP ["load"] (spTPq K) := tpq_of GTP
  have GCH : FnOk P w K mg base CX0 1 fCH dCH ["load", "low", "high"] (spCh K) := ok_ch T.FCH T.len T.zip
  have GMT : FnOk P w K mg base CX0 2 fMT dMT ["points", "place"] (spMT K) := ok_MT T.FMT T.abs
  have GNU : FnOk P w K mg base CX0 1 fNU dNU ["value"] spNum := ok_Num T.FNU T.isinstance T.int T.bool
  have GRM : FnOk P w K mg base CX0 3 fRM dRM ["points"] (spRem K) := ok_rem T.FRM GMT T.gMT T.kMT T.bMT T.len T.range T.tuple
  have GIR : FnOk P w K mg base CX0 3 fIR dIR ["points", "value"] (spIR K) := ok_IR T.FIR GNU T.gNU T.kNU T.bNU GMT T.gMT T.kMT T.bMT T.len
  have GTK : FnOk P w K mg base CX0 4 fTK dTK ["points", "place"] (spTk K) := ok_tk T.FTK GIR T.gIR T.kIR T.bIR (GRG.mono (by decide)) T.gRG T.kRG T.bRG T.tuple
  have GPB : FnOk P w K mg base CX0 3 fPB dPB ["rest", "reading"] spPB := ok_PB T.FPB GIL T.gIL T.kIL T.bIL GMT T.gMT T.kMT T.bMT (GRG.mono (by decide)) T.gRG T.kRG T.bRG T.len
  have GCN : FnOk P w K mg base CX0 4 fCN dCN ["load"] (spCo K) := ok_Co T.FCN GPB T.gPB T.kPB T.bPB
  have GIN : FnOk P w K mg base CX0 1 fIN dIN ["self", "cycles", "rest"] (spInit K C) := ok_init T.FIN T.cn T.sorted T.tuple
  have GOF : FnOk P w K mg base CX0 5 fOF dOF ["cls", "load"] (spOf K C) := ok_of T.FOF T.mkc (GIN.mono (by decide)) T.bIN GCN T.gCN T.kCN T.bCN
  have GPC : FnOk P w K mg base CX0 1 fPC dPC ["self"] (spPC C) := ok_PC T.FPC T.cn
  have GPR : FnOk P w K mg base CX0 1 fPR_ dPR_ ["self"] (spPR C) := ok_PR T.FPR_ T.cn
  have GTA : FnOk P w K mg base CX0 1 fTA dTA ["feed", "many"] spTake := ok_take T.FTA
  have GFE : FnOk P w K mg base CX0 1 fFE dFE ["script", "k"] (spFeed K) := ok_feed T.FFE T.len T.max T.abs
  have GPI : FnOk P w K mg base CX0 2 fPI dPI ["feed", "some"] (spPick K) := ok_pick T.FPI T.FTA T.gTA T.bTA T.len
  have GRO : FnOk P w K mg base CX0 1 fRO dRO [] spRo := ok_ro T.FRO
  have GMV : FnOk P w K mg base CX0 1 fMV dMV ["row", "far"] spMv := ok_mv T.FMV T.int T.tuple
  have GJN : FnR P w K mg base CX0 5 fJN (spJN C) := ok_JN T.FJN T.cn T.mkc T.gC (GIN.mono (by decide)) T.bIN GCN T.gCN T.kCN T.bCN T.prC (GPC.mono (by decide)) T.bPC T.prR (GPR.mono (by decide)) T.bPR_
  have GJN : FnR P w K mg base CX0 6 fJN (spJN C) := fun A outer s H us vs Q E hr => GJN A outer s H us vs Q E (hr.mono (by decide))
  have GOT : FnOk P w K mg base CX0 6 fOT dOT ["far"] (I1V.spOt) := I1V.ok_ot T.FOT T
  have GLG : FnOk P w K mg base CX0 6 fLG dLG ["far"] (I1V.spLg) := I1V.ok_lg T.FLG T
  have GCO := GCO.mono (show 1 ≤ 6 by decide)
  have GRG := GRG.mono (show 1 ≤ 6 by decide)
  have GIL := GIL.mono (show 2 ≤ 6 by decide)
  have GTP := GTP.mono (show 3 ≤ 6 by decide)
  have GTQ := GTQ.mono (show 3 ≤ 6 by decide)
  have GCH := GCH.mono (show 1 ≤ 6 by decide)
  have GMT := GMT.mono (show 2 ≤ 6 by decide)
  have GNU := GNU.mono (show 1 ≤ 6 by decide)
  have GRM := GRM.mono (show 3 ≤ 6 by decide)
  have GIR := GIR.mono (show 3 ≤ 6 by decide)
  have GTK := GTK.mono (show 4 ≤ 6 by decide)
  have GPB := GPB.mono (show 3 ≤ 6 by decide)
  have GCN := GCN.mono (show 4 ≤ 6 by decide)
  have GIN := GIN.mono (show 1 ≤ 6 by decide)
  have GOF := GOF.mono (show 5 ≤ 6 by decide)
  have GPC := GPC.mono (show 1 ≤ 5 by decide)
  have GPR := GPR.mono (show 1 ≤ 5 by decide)
  have GTA := GTA.mono (show 1 ≤ 6 by decide)
  have GFE := GFE.mono (show 1 ≤ 6 by decide)
  have GPI := GPI.mono (show 2 ≤ 6 by decide)
  have GRO := GRO.mono (show 1 ≤ 6 by decide)
  have GMV := GMV.mono (show 1 ≤ 6 by decide)
  have GOT := GOT.mono (show 6 ≤ 6 by decide)
  have GLG := GLG.mono (show 6 ≤ 6 by decide)
  refine KW.kept_of F I1L.scLaw len_law (fun cdv A outer s H vs Q E hgA hr h => ?_)
  · obtain ⟨a, ns, rfl, hS, hlen, q⟩ := h
    refine ⟨_, (pss_cons (ps_for PassesOwn.never rfl (pi_range1 rfl T.range (pa_cons (pe_callB (call_max2 rfl) (by rfl) T.max (by decide +kernel) (pa_cons pe_int (pa_cons (pe_callB (call_min2 rfl) (by rfl) T.min (by decide +kernel) (pa_cons pe_int (pa_cons (pe_callB call_len_seq (by rfl) T.len PySem.boot_len (pa_cons (pv 0) pa_nil)) pa_nil))) pa_nil))) pa_nil)) (pg_name (i := 1) I1L.scLaw.nd rfl (.inl rfl))
      (pss_cons (ps_set (i := 2) I1L.scLaw.nd rfl (.inl rfl) (pe_call GFE hr (by rfl) T.gFE T.kFE T.bFE .nil pass0 (pa_cons (pv 0) (pa_cons (pv 1) pa_nil))))
      (pss_cons (ps_set (i := 3) I1L.scLaw.nd rfl (.inl rfl) (pe_call GPI hr (by rfl) T.gPI T.kPI T.bPI .nil pass0 (pa_cons (pv 2) (pa_cons (pe_lst (pa_cons pe_int (pa_cons (pe_un un_neg pe_int) (pa_cons (pe_op op_sub (pe_op op_pow pe_int pe_int) pe_int) (pa_cons (pe_call GTA hr (by rfl) T.gTA T.kTA T.bTA .nil pass0 (pa_cons (pv 2) (pa_cons pe_int pa_nil))) pa_nil))))) pa_nil))))
      (pss_cons (ps_for PassesOwn.never rfl (pi_list (pe_call0 GRO hr (by rfl) T.gRO T.kRO T.bRO .nil pass0)) (pg_name (i := 4) I1L.scLaw.nd rfl (.inl rfl))
      (pss_cons (ps_asg (pe_call GMV hr (by rfl) T.gMV T.kMV T.bMV .nil pass0 (pa_cons (pv 4) (pa_cons (pv 3) pa_nil))) (pg_tup rfl (pgs_cons (pg_name (i := 5) I1L.scLaw.nd rfl (.inl rfl)) (pgs_cons (pg_name (i := 6) I1L.scLaw.nd rfl (.inl rfl)) (pgs_cons (pg_name (i := 7) I1L.scLaw.nd rfl (.inl rfl)) pgs_nil)))))
      (pss_cons (ps_set (i := 8) I1L.scLaw.nd rfl (.inl rfl) (ClX.pe_cmeth (pe_glob (v := .ref C) (by rfl) T.gC rfl) T.rd T.cm (GOF.raw T.bOF .nil) hr pass0 (pa_cons (pv 5) pa_nil)))
      (pss_one (ps_if (pt_cmpR (op_neD hr.units) (pe_tup (pa_cons (pe_prop (pv 8) T.cn.cl T.prC GPC hr T.bPC .nil pass0 (by rfl)) (pa_cons (pe_prop (pv 8) T.cn.cl T.prR GPR hr T.bPR_ .nil pass0 (by rfl)) pa_nil))) (pe_tup (pa_cons (pv 6) (pa_cons (pv 7) pa_nil))) (nomark _)) (pss_one (ps_ret pe_bl)) pss_nil)))))
      (pss_one (ps_if (PW.pt (pw_or (pt_not (pt_val (pe_call GOT hr (by rfl) T.gOT T.kOT T.bOT .nil pass0 (pa_cons (pv 3) pa_nil)))) (pw_or (pt_not (pt_val (pe_call GLG hr (by rfl) T.gLG T.kLG T.bLG .nil pass0 (pa_cons (pv 3) pa_nil)))) (pw_or1 (pt_cmpR (op_neD hr.units) (pe_call GTQ hr (by rfl) T.gTP T.kTP T.bTP .nil pass0 (pa_cons (pe_lst pa_nil) pa_nil)) (pe_tup pa_nil) (nomark _)))))) (pss_one (ps_ret pe_bl)) pss_nil))))))
      (pss_one (ps_ret pe_bl))), ?_⟩
    have l0s : 0 ≤ sizeLine := by decide
    have l2s : 2 ≤ sizeLine := by decide
    have l4s : 4 ≤ sizeLine := by decide
    refine ⟨.ref a, rfl, a, ns.map V.int, rfl, .inl hS, 4, ((ns.map V.int).length : Int), rfl, 1, _, rfl, _, rfl, ?_⟩
    generalize hm : (if (if ((ns.map V.int).length : Int) < 4 then ((ns.map V.int).length : Int) else 4) > 1 then (if ((ns.map V.int).length : Int) < 4 then ((ns.map V.int).length : Int) else 4) else 1) = m
    have m0 : 0 ≤ m ∧ m ≤ 4 := by subst hm; split <;> split <;> omega
    refine ⟨by omega, by omega, for_range (lo := 0) (n := m.toNat) (fun i σ H' => Same H H' ∧ ∃ r1 r2 r3 r4 r5 r6 r7 r8 : Option V, σ = [some (.ref a), r1, r2, r3, r4, r5, r6, r7, r8]) ⟨Same.refl H, _, _, _, _, _, _, _, _, rfl⟩ ?_ (fun σ H1 _ => q _)⟩
    rintro i σ H' hi ⟨sm, r1, r2, r3, r4, r5, r6, r7, r8, rfl⟩
    refine ⟨.ref a, rfl, .int (0 + (i : Int)), rfl, a, ns, 0 + (i : Int), rfl, sm.seq hS, by omega, by omega, fun H1 f s1 nf fe => ?_⟩
    have hf0 : H f = none := sm.free nf
    have sm1 := sm.trans s1
    clear sm s1 nf
    -- far
    refine ⟨.ref f, rfl, 5, rfl, 10, 9, rfl, rfl, ⟨by decide, by decide, by decide⟩, _, 20, rfl, rfl, .ref f, rfl, f, 1000, rfl, by decide, by decide, fe, fun H2 v c2 fe2 v0 v1 => ⟨l4s, fun l nl => ?_⟩⟩
    have sm2 := c2.old hf0 sm1
    generalize hH3 : upd H2 l _ = H3
    have sl : Same H2 H3 := by rw [← hH3]; exact same_new nl
    obtain ⟨b, hb⟩ : ∃ b : Int, H3 l = some (.lst [.int 0, .int (-5), .int b, .int v]) := by rw [← hH3, upd_same]; exact ⟨_, rfl⟩
    refine ⟨f, l, _, rfl, fe2.ne nl, SqL.of hb, by show 0 < 4; decide, by show 4 ≤ 1000; decide, fe2.same sl, fun H4 k vv hk c4 fe4 => ?_⟩
    obtain ⟨far, rfl⟩ : ∃ far, vv = V.int far := by
      match k, hk with
      | 0, hk => exact ⟨_, (Option.some.inj hk).symm⟩
      | 1, hk => exact ⟨_, (Option.some.inj hk).symm⟩
      | 2, hk => exact ⟨_, (Option.some.inj hk).symm⟩
      | 3, hk => exact ⟨_, (Option.some.inj hk).symm⟩
      | n + 4, hk => simp at hk
    have sm4 := c4.old hf0 (sm2.trans sl)
    clear hk c4 hb sl hH3 nl sm2 c2 fe fe2 sm1
    refine ⟨rfl, fun H5 p s5 hp => ⟨p, rfl, ⟨_, SqL.of hp⟩, for_list (K := K) (a := p) (xs := ROWS.map fun r => V.str r.1) (fun _ σ Hx => Same H5 Hx ∧ ∃ r1 r4 r5 r6 r7 r8 : Option V, σ = [some (.ref a), r1, some (.ref f), some (.int far), r4, r5, r6, r7, r8]) ⟨Same.refl _, _, _, _, _, _, _, rfl⟩ (fun _ _ _ _ g => SqL.of (g.1 _ _ hp)) ?_ ?_⟩⟩
    · rintro i v σ Hx hv ⟨sx, r1, r4, r5, r6, r7, r8, rfl⟩
      obtain ⟨r, hr2, rfl⟩ : ∃ r, ROWS[i]? = some r ∧ v = V.str r.1 := by
        rw [List.getElem?_map] at hv
        cases e : ROWS[i]? with
        | none => rw [e] at hv; cases hv
        | some r => rw [e] at hv; exact ⟨r, rfl, (Option.some.inj hv).symm⟩
      have row := rows_ok r (List.mem_of_getElem? hr2)
      refine ⟨.str r.1, rfl, .int far, rfl, r.1, far, _, _, _, rfl, row, fun H6 p6 q1 q2 q3 ys s6 hp6 h1 h2 pa h3 => ?_⟩
      refine ⟨p6, _, rfl, SqT.of hp6, rfl, .ref q1, _, rfl, .ref q2, _, rfl, .ref q3, _, rfl, rfl, ?_⟩
      have cnR := cn_mv row.cn row.lt far
      refine ⟨rfl, .ref q1, rfl, q1, _, rfl, .inl (SqL.of h1), by rw [List.length_map]; have := row.la; omega, fun H7 x cs ds rs s7 nx ca run nf perm srt => ?_⟩
      obtain ⟨ed, er⟩ := K9.cn_one rfl (⟨⟨cs, run, perm⟩, nf, srt⟩ : Cn _ ds rs) cnR
      rw [ed, er] at ca
      clear run nf perm srt ed er
      obtain ⟨dx, k1, k2, hx⟩ := sat2 ca
      refine ⟨.ref x, rfl, x, dx, _, rfl, hx, x, _, _, rfl, ca, fun t1 ys1 ht1 pa1 => ⟨.ref x, rfl, x, dx, _, rfl, hx, x, _, _, rfl, ca, fun t2 ht2 => ⟨l2s, fun u nu => ?_⟩⟩⟩
      have su := same_new (o := .tup [.ref t1, .ref t2]) nu
      refine ⟨.ref q2, rfl, .ref q3, rfl, l2s, fun w nw => ?_⟩
      have sw := same_new (o := .tup [.ref q2, .ref q3]) nw
      have w2 := su.trans sw
      have w3 := s7.trans w2
      refine ⟨dCn (r.2.2.1.map (mv far)) (r.2.2.2.map (· + far)), dCn (r.2.2.1.map (mv far)) (r.2.2.2.map (· + far)), dp_cn (sw _ _ upd_same) (w2 _ _ ht1) (pa1.same w2) (w2 _ _ ht2), dp_cn upd_same (w3 _ _ h2) (pa.same w3) (w3 _ _ h3), shaped_cn _ _, shaped_cn _ _, _, rfl, ?_⟩
      rw [eqv_same (shaped_cn _ _)]
      refine iteF ?_
      exact ⟨sx.trans (s6.trans w3), _, _, _, _, _, _, rfl⟩
    rintro σ H6 ⟨s6, r1, r4, r5, r6, r7, r8, rfl⟩
    have sm6 := sm4.trans (s5.trans s6)
    refine ⟨.int far, rfl, far, rfl, fun H7 s7 => ⟨true, rfl, iteF ?_⟩⟩
    refine ⟨.int far, rfl, far, rfl, fun H8 s8 => ⟨true, rfl, iteF ?_⟩⟩
    refine ⟨l0s, fun l nl => ⟨l, [], rfl, .inl (SqL.of upd_same), by show 0 ≤ 2500; omega, fun H9 p9 s9 np9 hp9 => ⟨l0s, fun u nu => ?_⟩⟩⟩
    have su := same_new (o := .tup (([] : List Int).map V.int)) nu
    refine ⟨.tuple (dInts []), .tuple (dInts []), .tup (SqT.of (su _ _ hp9)) (dp_ints _), .tup (SqT.of (xs := ([] : List Int).map V.int) upd_same) (dp_ints _), shaped_tup _, shaped_tup _, _, rfl, ?_⟩
    rw [eqv_same (shaped_tup _)]
    refine iteF ?_
    exact ⟨sm6.trans (s7.trans (s8.trans ((same_new nl).trans (s9.trans su)))), _, _, _, _, _, _, _, _, rfl⟩
end
end I1L

set_option pp.maxSteps 300
namespace I1E
open PySem PySem.Spec PyProof.Rows L2 KA KD PH PM PA PB PC RM RN RC RS QE QF QG QH QJ RJ UJN I1M
open K9 (Cn cn_one)
open I1R I1V I1L
theorem all_mk {l : PySem.W.OpenLaw} {w : World} {K : PySem.W.Frag} {h : Heap} {mg : Str → Option Value} {fa fCO fRG fTP fIL fBT fCH fNU fRM fTK fIR fMT fPB fCN fFE fTA fPI fRO fMV fOT fLG C fIN pO fOF pSJN fJN pC fPC pR fPR_ fLAW : Addr} (X : K.In h) (G : h.Ns mainGlobals mg) (hfa : mg "law" = some (.ref fa))
    {odCO anCO odRG anRG odTP anTP odIL anIL odBT anBT odCH anCH odNU anNU odRM anRM odTK anTK odIR anIR odMT anMT odPB anPB odCN anCN odFE anFE odTA anTA odPI anPI odRO anRO odMV anMV odOT anOT odLG anLG odIN anIN odOF anOF odJN anJN odPC anPC odPR_ anPR_ odLAW anLAW : Option Addr} {slCO slRG slTP slIL slBT slCH slNU slRM slTK slIR slMT slPB slCN slFE slTA slPI slRO slMV slOT slLG slIN slOF slJN slPC slPR_ slLAW : Array (Option Value)} {ocCO dcCO pmCO cdCO ctCO kVCO ocRG dcRG pmRG cdRG ctRG kVRG ocTP dcTP pmTP cdTP ctTP kVTP ocIL dcIL pmIL cdIL ctIL kVIL ocBT dcBT pmBT cdBT ctBT kVBT ocCH dcCH pmCH cdCH ctCH kVCH ocNU dcNU pmNU cdNU ctNU kVNU ocRM dcRM pmRM cdRM ctRM kVRM ocTK dcTK pmTK cdTK ctTK kVTK ocIR dcIR pmIR cdIR ctIR kVIR ocMT dcMT pmMT cdMT ctMT kVMT ocPB dcPB pmPB cdPB ctPB kVPB ocCN dcCN pmCN cdCN ctCN kVCN ocFE dcFE pmFE cdFE ctFE kVFE ocTA dcTA pmTA cdTA ctTA kVTA ocPI dcPI pmPI cdPI ctPI kVPI ocRO dcRO pmRO cdRO ctRO kVRO ocMV dcMV pmMV cdMV ctMV kVMV ocOT dcOT pmOT cdOT ctOT kVOT ocLG dcLG pmLG cdLG ctLG kVLG ocIN dcIN pmIN cdIN ctIN kVIN ocOF dcOF pmOF cdOF ctOF kVOF ocJN dcJN pmJN cdJN ctJN kVJN ocPC dcPC pmPC cdPC ctPC kVPC ocPR_ dcPR_ pmPR_ cdPR_ ctPR_ kVPR_ ocLAW dcLAW pmLAW cdLAW ctLAW kVLAW : Value} {rOF rJN rPC rPR_ : List Value}
    (aCO : PySem.W.nsIn K mainGlobals "contains" = some (some (.ref fCO)))
    (lCO : K.lookup fCO = some ⟨ocCO, odCO, .func (PySem.W.fnOf "contains" "contains" (defArgs sCont) (defBody sCont) (defScope sCont) .none kVCO dcCO pmCO anCO cdCO ctCO), slCO⟩)
    (cCO : PySem.W.codeIn K cdCO "contains" = true)
    (kCO : PySem.W.keepIn K (.ref fCO) = true)
    (aRG : PySem.W.nsIn K mainGlobals "range_of" = some (some (.ref fRG)))
    (lRG : K.lookup fRG = some ⟨ocRG, odRG, .func (PySem.W.fnOf "range_of" "range_of" (defArgs sRng) (defBody sRng) (defScope sRng) .none kVRG dcRG pmRG anRG cdRG ctRG), slRG⟩)
    (cRG : PySem.W.codeIn K cdRG "range_of" = true)
    (kRG : PySem.W.keepIn K (.ref fRG) = true)
    (aTP : PySem.W.nsIn K mainGlobals "turning_points" = some (some (.ref fTP)))
    (lTP : K.lookup fTP = some ⟨ocTP, odTP, .func (PySem.W.fnOf "turning_points" "turning_points" (defArgs sTP) (defBody sTP) (defScope sTP) .none kVTP dcTP pmTP anTP cdTP ctTP), slTP⟩)
    (cTP : PySem.W.codeIn K cdTP "turning_points" = true)
    (kTP : PySem.W.keepIn K (.ref fTP) = true)
    (aIL : PySem.W.nsIn K mainGlobals "is_left_out" = some (some (.ref fIL)))
    (lIL : K.lookup fIL = some ⟨ocIL, odIL, .func (PySem.W.fnOf "is_left_out" "is_left_out" (defArgs sLO) (defBody sLO) (defScope sLO) .none kVIL dcIL pmIL anIL cdIL ctIL), slIL⟩)
    (cIL : PySem.W.codeIn K cdIL "is_left_out" = true)
    (kIL : PySem.W.keepIn K (.ref fIL) = true)
    (aBT : PySem.W.nsIn K mainGlobals "_lies_between" = some (some (.ref fBT)))
    (lBT : K.lookup fBT = some ⟨ocBT, odBT, .func (PySem.W.fnOf "_lies_between" "_lies_between" (defArgs sBtw) (defBody sBtw) (defScope sBtw) .none kVBT dcBT pmBT anBT cdBT ctBT), slBT⟩)
    (cBT : PySem.W.codeIn K cdBT "_lies_between" = true)
    (kBT : PySem.W.keepIn K (.ref fBT) = true)
    (aCH : PySem.W.nsIn K mainGlobals "changes" = some (some (.ref fCH)))
    (lCH : K.lookup fCH = some ⟨ocCH, odCH, .func (PySem.W.fnOf "changes" "changes" (defArgs sCh) (defBody sCh) (defScope sCh) .none kVCH dcCH pmCH anCH cdCH ctCH), slCH⟩)
    (cCH : PySem.W.codeIn K cdCH "changes" = true)
    (kCH : PySem.W.keepIn K (.ref fCH) = true)
    (aNU : PySem.W.nsIn K mainGlobals "is_number" = some (some (.ref fNU)))
    (lNU : K.lookup fNU = some ⟨ocNU, odNU, .func (PySem.W.fnOf "is_number" "is_number" (defArgs sNum) (defBody sNum) (defScope sNum) .none kVNU dcNU pmNU anNU cdNU ctNU), slNU⟩)
    (cNU : PySem.W.codeIn K cdNU "is_number" = true)
    (kNU : PySem.W.keepIn K (.ref fNU) = true)
    (aRM : PySem.W.nsIn K mainGlobals "removable" = some (some (.ref fRM)))
    (lRM : K.lookup fRM = some ⟨ocRM, odRM, .func (PySem.W.fnOf "removable" "removable" (defArgs sRem) (defBody sRem) (defScope sRem) .none kVRM dcRM pmRM anRM cdRM ctRM), slRM⟩)
    (cRM : PySem.W.codeIn K cdRM "removable" = true)
    (kRM : PySem.W.keepIn K (.ref fRM) = true)
    (aTK : PySem.W.nsIn K mainGlobals "take" = some (some (.ref fTK)))
    (lTK : K.lookup fTK = some ⟨ocTK, odTK, .func (PySem.W.fnOf "take" "take" (defArgs sTk) (defBody sTk) (defScope sTk) .none kVTK dcTK pmTK anTK cdTK ctTK), slTK⟩)
    (cTK : PySem.W.codeIn K cdTK "take" = true)
    (kTK : PySem.W.keepIn K (.ref fTK) = true)
    (aIR : PySem.W.nsIn K mainGlobals "_is_removable" = some (some (.ref fIR)))
    (lIR : K.lookup fIR = some ⟨ocIR, odIR, .func (PySem.W.fnOf "_is_removable" "_is_removable" (defArgs sIR) (defBody sIR) (defScope sIR) .none kVIR dcIR pmIR anIR cdIR ctIR), slIR⟩)
    (cIR : PySem.W.codeIn K cdIR "_is_removable" = true)
    (kIR : PySem.W.keepIn K (.ref fIR) = true)
    (aMT : PySem.W.nsIn K mainGlobals "_may_be_taken" = some (some (.ref fMT)))
    (lMT : K.lookup fMT = some ⟨ocMT, odMT, .func (PySem.W.fnOf "_may_be_taken" "_may_be_taken" (defArgs sMT) (defBody sMT) (defScope sMT) .none kVMT dcMT pmMT anMT cdMT ctMT), slMT⟩)
    (cMT : PySem.W.codeIn K cdMT "_may_be_taken" = true)
    (kMT : PySem.W.keepIn K (.ref fMT) = true)
    (aPB : PySem.W.nsIn K mainGlobals "put_behind" = some (some (.ref fPB)))
    (lPB : K.lookup fPB = some ⟨ocPB, odPB, .func (PySem.W.fnOf "put_behind" "put_behind" (defArgs sPB) (defBody sPB) (defScope sPB) .none kVPB dcPB pmPB anPB cdPB ctPB), slPB⟩)
    (cPB : PySem.W.codeIn K cdPB "put_behind" = true)
    (kPB : PySem.W.keepIn K (.ref fPB) = true)
    (aCN : PySem.W.nsIn K mainGlobals "_counted" = some (some (.ref fCN)))
    (lCN : K.lookup fCN = some ⟨ocCN, odCN, .func (PySem.W.fnOf "_counted" "_counted" (defArgs sCo) (defBody sCo) (defScope sCo) .none kVCN dcCN pmCN anCN cdCN ctCN), slCN⟩)
    (cCN : PySem.W.codeIn K cdCN "_counted" = true)
    (kCN : PySem.W.keepIn K (.ref fCN) = true)
    (aFE : PySem.W.nsIn K mainGlobals "_law_feed" = some (some (.ref fFE)))
    (lFE : K.lookup fFE = some ⟨ocFE, odFE, .func (PySem.W.fnOf "_law_feed" "_law_feed" (defArgs sFeed) (defBody sFeed) (defScope sFeed) .none kVFE dcFE pmFE anFE cdFE ctFE), slFE⟩)
    (cFE : PySem.W.codeIn K cdFE "_law_feed" = true)
    (kFE : PySem.W.keepIn K (.ref fFE) = true)
    (aTA : PySem.W.nsIn K mainGlobals "_law_take" = some (some (.ref fTA)))
    (lTA : K.lookup fTA = some ⟨ocTA, odTA, .func (PySem.W.fnOf "_law_take" "_law_take" (defArgs sTake) (defBody sTake) (defScope sTake) .none kVTA dcTA pmTA anTA cdTA ctTA), slTA⟩)
    (cTA : PySem.W.codeIn K cdTA "_law_take" = true)
    (kTA : PySem.W.keepIn K (.ref fTA) = true)
    (aPI : PySem.W.nsIn K mainGlobals "_law_pick" = some (some (.ref fPI)))
    (lPI : K.lookup fPI = some ⟨ocPI, odPI, .func (PySem.W.fnOf "_law_pick" "_law_pick" (defArgs sPick) (defBody sPick) (defScope sPick) .none kVPI dcPI pmPI anPI cdPI ctPI), slPI⟩)
    (cPI : PySem.W.codeIn K cdPI "_law_pick" = true)
    (kPI : PySem.W.keepIn K (.ref fPI) = true)
    (aRO : PySem.W.nsIn K mainGlobals "_law_rows" = some (some (.ref fRO)))
    (lRO : K.lookup fRO = some ⟨ocRO, odRO, .func (PySem.W.fnOf "_law_rows" "_law_rows" (defArgs sRo) (defBody sRo) (defScope sRo) .none kVRO dcRO pmRO anRO cdRO ctRO), slRO⟩)
    (cRO : PySem.W.codeIn K cdRO "_law_rows" = true)
    (kRO : PySem.W.keepIn K (.ref fRO) = true)
    (aMV : PySem.W.nsIn K mainGlobals "_law_moved" = some (some (.ref fMV)))
    (lMV : K.lookup fMV = some ⟨ocMV, odMV, .func (PySem.W.fnOf "_law_moved" "_law_moved" (defArgs sMv) (defBody sMv) (defScope sMv) .none kVMV dcMV pmMV anMV cdMV ctMV), slMV⟩)
    (cMV : PySem.W.codeIn K cdMV "_law_moved" = true)
    (kMV : PySem.W.keepIn K (.ref fMV) = true)
    (aOT : PySem.W.nsIn K mainGlobals "_law_others_right" = some (some (.ref fOT)))
    (lOT : K.lookup fOT = some ⟨ocOT, odOT, .func (PySem.W.fnOf "_law_others_right" "_law_others_right" (defArgs I1V.sOt) (defBody I1V.sOt) (defScope I1V.sOt) .none kVOT dcOT pmOT anOT cdOT ctOT), slOT⟩)
    (cOT : PySem.W.codeIn K cdOT "_law_others_right" = true)
    (kOT : PySem.W.keepIn K (.ref fOT) = true)
    (aLG : PySem.W.nsIn K mainGlobals "_law_long_right" = some (some (.ref fLG)))
    (lLG : K.lookup fLG = some ⟨ocLG, odLG, .func (PySem.W.fnOf "_law_long_right" "_law_long_right" (defArgs I1V.sLg) (defBody I1V.sLg) (defScope I1V.sLg) .none kVLG dcLG pmLG anLG cdLG ctLG), slLG⟩)
    (cLG : PySem.W.codeIn K cdLG "_law_long_right" = true)
    (kLG : PySem.W.keepIn K (.ref fLG) = true)
    (aC : PySem.W.nsIn K mainGlobals "Count" = some (some (.ref C)))
    (pg : PySem.W.plainGet K C Str.empty = true)
    (hd : PySem.W.hasDictIn K C = true)
    (po : PySem.W.plainOver K C = true)
    (sa : PySem.W.findIn K (.ref C) "__setattr__" = some (some (.builtin "object.__setattr__")))
    (na0 : PySem.W.findIn K (.ref C) "_cycles" = some none)
    (na1 : PySem.W.findIn K (.ref C) "_rest" = some none)
    (mk : PySem.W.makesIn K C = true)
    (kc : PySem.W.keepIn K (.ref C) = true)
    (aI : PySem.W.findIn K (.ref C) "__init__" = some (some (.ref fIN)))
    (iI : PySem.W.isFn K (.ref fIN) = true)
    (lIN : K.lookup fIN = some ⟨ocIN, odIN, .func (PySem.W.fnOf "__init__" "Count.__init__" (defArgs sInit) (defBody sInit) (defScope sInit) .none kVIN dcIN pmIN anIN cdIN ctIN), slIN⟩)
    (cIN : PySem.W.codeIn K cdIN "Count.__init__" = true)
    (kIN : PySem.W.keepIn K (.ref fIN) = true)
    (rdOF : PySem.W.readsIn K C (.type "type") = true)
    (gaOF : PySem.W.specialIn K (.ref C) "__getattribute__" = some (some (.builtin "type.__getattribute__")))
    (aOF : PySem.W.findCls K (.ref C) (.type "type") "of" = some (.get (.builtin "classmethod.__get__") (.ref pO) .none (.ref C)))
    (rcOF : PySem.W.recIn K pO "classmethod" = some (.ref fOF :: rOF))
    (fiOF : PySem.W.fnIn K fOF = true)
    (lOF : K.lookup fOF = some ⟨ocOF, odOF, .func (PySem.W.fnOf "of" "Count.of" (defArgs sOf) (defBody sOf) (defScope sOf) .none kVOF dcOF pmOF anOF cdOF ctOF), slOF⟩)
    (cOF : PySem.W.codeIn K cdOF "Count.of" = true)
    (kOF : PySem.W.keepIn K (.ref fOF) = true)
    (aJN : PySem.W.findCls K (.ref C) (.type "type") "joined" = some (.get (.builtin "staticmethod.__get__") (.ref pSJN) .none (.ref C)))
    (rcJN : PySem.W.recIn K pSJN "staticmethod" = some (.ref fJN :: rJN))
    (lJN : K.lookup fJN = some ⟨ocJN, odJN, .func (PySem.W.fnOf "joined" "Count.joined" (defArgs sJN) (defBody sJN) (defScope sJN) .none kVJN dcJN pmJN anJN cdJN ctJN), slJN⟩)
    (cJN : PySem.W.codeIn K cdJN "Count.joined" = true)
    (kJN : PySem.W.keepIn K (.ref fJN) = true)
    (aPPC : PySem.W.findIn K (.ref C) "cycles" = some (some (.ref pC)))
    (gPPC : PySem.W.specialIn K (.ref pC) "__get__" = some (some (.builtin "property.__get__")))
    (tPPC : PySem.W.takesIn K (.ref pC) = some true)
    (rcPPC : PySem.W.recIn K pC "property" = some (.ref fPC :: rPC))
    (lPC : K.lookup fPC = some ⟨ocPC, odPC, .func (PySem.W.fnOf "cycles" "Count.cycles" (defArgs sPC) (defBody sPC) (defScope sPC) .none kVPC dcPC pmPC anPC cdPC ctPC), slPC⟩)
    (cPC : PySem.W.codeIn K cdPC "Count.cycles" = true)
    (kPC : PySem.W.keepIn K (.ref fPC) = true)
    (aPPR_ : PySem.W.findIn K (.ref C) "rest" = some (some (.ref pR)))
    (gPPR_ : PySem.W.specialIn K (.ref pR) "__get__" = some (some (.builtin "property.__get__")))
    (tPPR_ : PySem.W.takesIn K (.ref pR) = some true)
    (rcPPR_ : PySem.W.recIn K pR "property" = some (.ref fPR_ :: rPR_))
    (lPR_ : K.lookup fPR_ = some ⟨ocPR_, odPR_, .func (PySem.W.fnOf "rest" "Count.rest" (defArgs sPR) (defBody sPR) (defScope sPR) .none kVPR_ dcPR_ pmPR_ anPR_ cdPR_ ctPR_), slPR_⟩)
    (cPR_ : PySem.W.codeIn K cdPR_ "Count.rest" = true)
    (kPR_ : PySem.W.keepIn K (.ref fPR_) = true)
    (z1 : PySem.W.nsIn K mainGlobals "len" = some none)
    (z2 : PySem.W.nsIn K mainGlobals "zip" = some none)
    (z3 : PySem.W.nsIn K mainGlobals "max" = some none)
    (z4 : PySem.W.nsIn K mainGlobals "min" = some none)
    (z5 : PySem.W.nsIn K mainGlobals "abs" = some none)
    (z6 : PySem.W.nsIn K mainGlobals "range" = some none)
    (z7 : PySem.W.nsIn K mainGlobals "sorted" = some none)
    (z8 : PySem.W.nsIn K mainGlobals "tuple" = some none)
    (z9 : PySem.W.nsIn K mainGlobals "list" = some none)
    (z10 : PySem.W.nsIn K mainGlobals "int" = some none)
    (z11 : PySem.W.nsIn K mainGlobals "isinstance" = some none)
    (z12 : PySem.W.nsIn K mainGlobals "bool" = some none)
    (aLAW : PySem.W.nsIn K mainGlobals "law" = some (some (.ref fLAW)))
    (lLAW : K.lookup fLAW = some ⟨ocLAW, odLAW, .func (PySem.W.fnOf "law" "law" (defArgs I1L.sLaw) (defBody I1L.sLaw) (defScope I1L.sLaw) .none kVLAW dcLAW pmLAW anLAW cdLAW ctLAW), slLAW⟩)
    (cLAW : PySem.W.codeIn K cdLAW "law" = true)
    (kLAW : PySem.W.keepIn K (.ref fLAW) = true) :
    ∃ fd : FuncData, (∀ (s : Shared) (v : Value), BindsTo s fd ⟨[v], []⟩ [("script", v)]) ∧ ∀ base : Heap, K.In base → base.Ns mainGlobals mg → KW.Kept l.prog w K mg base 7 fa fd ["script"] (I1L.spLaw K) := by
  have e := hfa.symm.trans (PySem.W.mg_of X G aLAW)
  cases e
  have FCO := fun_mk (st := sCont) lCO cCO kCO
  have bCO := FCO.binds (ps := ["outer", "inner"]) fun _ _ _ _ _ _ us hl => match us, hl with | [_, _], _ => rfl
  have FRG := fun_mk (st := sRng) lRG cRG kRG
  have bRG := FRG.binds (ps := ["one", "other"]) fun _ _ _ _ _ _ us hl => match us, hl with | [_, _], _ => rfl
  have FTP := fun_mk (st := sTP) lTP cTP kTP
  have bTP := FTP.binds (ps := ["load"]) fun _ _ _ _ _ _ us hl => match us, hl with | [_], _ => rfl
  have FIL := fun_mk (st := sLO) lIL cIL kIL
  have bIL := FIL.binds (ps := ["points", "reading"]) fun _ _ _ _ _ _ us hl => match us, hl with | [_, _], _ => rfl
  have FBT := fun_mk (st := sBtw) lBT cBT kBT
  have bBT := FBT.binds (ps := ["reading", "before", "after"]) fun _ _ _ _ _ _ us hl => match us, hl with | [_, _, _], _ => rfl
  have FCH := fun_mk (st := sCh) lCH cCH kCH
  have bCH := FCH.binds (ps := ["load", "low", "high"]) fun _ _ _ _ _ _ us hl => match us, hl with | [_, _, _], _ => rfl
  have FNU := fun_mk (st := sNum) lNU cNU kNU
  have bNU := FNU.binds (ps := ["value"]) fun _ _ _ _ _ _ us hl => match us, hl with | [_], _ => rfl
  have FRM := fun_mk (st := sRem) lRM cRM kRM
  have bRM := FRM.binds (ps := ["points"]) fun _ _ _ _ _ _ us hl => match us, hl with | [_], _ => rfl
  have FTK := fun_mk (st := sTk) lTK cTK kTK
  have bTK := FTK.binds (ps := ["points", "place"]) fun _ _ _ _ _ _ us hl => match us, hl with | [_, _], _ => rfl
  have FIR := fun_mk (st := sIR) lIR cIR kIR
  have bIR := FIR.binds (ps := ["points", "value"]) fun _ _ _ _ _ _ us hl => match us, hl with | [_, _], _ => rfl
  have FMT := fun_mk (st := sMT) lMT cMT kMT
  have bMT := FMT.binds (ps := ["points", "place"]) fun _ _ _ _ _ _ us hl => match us, hl with | [_, _], _ => rfl
  have FPB := fun_mk (st := sPB) lPB cPB kPB
  have bPB := FPB.binds (ps := ["rest", "reading"]) fun _ _ _ _ _ _ us hl => match us, hl with | [_, _], _ => rfl
  have FCN := fun_mk (st := sCo) lCN cCN kCN
  have bCN := FCN.binds (ps := ["load"]) fun _ _ _ _ _ _ us hl => match us, hl with | [_], _ => rfl
  have FFE := fun_mk (st := sFeed) lFE cFE kFE
  have bFE := FFE.binds (ps := ["script", "k"]) fun _ _ _ _ _ _ us hl => match us, hl with | [_, _], _ => rfl
  have FTA := fun_mk (st := sTake) lTA cTA kTA
  have bTA := FTA.binds (ps := ["feed", "many"]) fun _ _ _ _ _ _ us hl => match us, hl with | [_, _], _ => rfl
  have FPI := fun_mk (st := sPick) lPI cPI kPI
  have bPI := FPI.binds (ps := ["feed", "some"]) fun _ _ _ _ _ _ us hl => match us, hl with | [_, _], _ => rfl
  have FRO := fun_mk (st := sRo) lRO cRO kRO
  have bRO := FRO.binds (ps := []) fun _ _ _ _ _ _ us hl => match us, hl with | [], _ => rfl
  have FMV := fun_mk (st := sMv) lMV cMV kMV
  have bMV := FMV.binds (ps := ["row", "far"]) fun _ _ _ _ _ _ us hl => match us, hl with | [_, _], _ => rfl
  have FOT := fun_mk (st := I1V.sOt) lOT cOT kOT
  have bOT := FOT.binds (ps := ["far"]) fun _ _ _ _ _ _ us hl => match us, hl with | [_], _ => rfl
  have FLG := fun_mk (st := I1V.sLg) lLG cLG kLG
  have bLG := FLG.binds (ps := ["far"]) fun _ _ _ _ _ _ us hl => match us, hl with | [_], _ => rfl
  have FIN := fun_mk (st := sInit) lIN cIN kIN
  have bIN := FIN.binds (ps := ["self", "cycles", "rest"]) fun _ _ _ _ _ _ us hl => match us, hl with | [_, _, _], _ => rfl
  have FOF := fun_mk (st := sOf) lOF cOF kOF
  have bOF := FOF.binds (ps := ["cls", "load"]) fun _ _ _ _ _ _ us hl => match us, hl with | [_, _], _ => rfl
  have FJN := fun_mk (st := sJN) lJN cJN kJN
  have FPC := fun_mk (st := sPC) lPC cPC kPC
  have bPC := FPC.binds (ps := ["self"]) fun _ _ _ _ _ _ us hl => match us, hl with | [_], _ => rfl
  have FPR_ := fun_mk (st := sPR) lPR_ cPR_ kPR_
  have bPR_ := FPR_.binds (ps := ["self"]) fun _ _ _ _ _ _ us hl => match us, hl with | [_], _ => rfl
  have FLAW := fun_mk (st := I1L.sLaw) lLAW cLAW kLAW
  have T : I1V.Txt K mg fCO fRG fTP fIL fBT fCH fNU fRM fTK fIR fMT fPB fCN fFE fTA fPI fRO fMV fOT fLG C fIN pO fOF fJN pC fPC pR fPR_ _ _ _ _ _ _ _ _ _ _ _ _ _ _ _ _ _ _ _ _ _ _ _ _ _ := ⟨FCO, PySem.W.mg_of X G aCO, kCO, bCO, FRG, PySem.W.mg_of X G aRG, kRG, bRG, FTP, PySem.W.mg_of X G aTP, kTP, bTP, FIL, PySem.W.mg_of X G aIL, kIL, bIL, FBT, PySem.W.mg_of X G aBT, kBT, bBT, FCH, PySem.W.mg_of X G aCH, kCH, bCH, FNU, PySem.W.mg_of X G aNU, kNU, bNU, FRM, PySem.W.mg_of X G aRM, kRM, bRM, FTK, PySem.W.mg_of X G aTK, kTK, bTK, FIR, PySem.W.mg_of X G aIR, kIR, bIR, FMT, PySem.W.mg_of X G aMT, kMT, bMT, FPB, PySem.W.mg_of X G aPB, kPB, bPB, FCN, PySem.W.mg_of X G aCN, kCN, bCN, FFE, PySem.W.mg_of X G aFE, kFE, bFE, FTA, PySem.W.mg_of X G aTA, kTA, bTA, FPI, PySem.W.mg_of X G aPI, kPI, bPI, FRO, PySem.W.mg_of X G aRO, kRO, bRO, FMV, PySem.W.mg_of X G aMV, kMV, bMV, FOT, PySem.W.mg_of X G aOT, kOT, bOT, FLG, PySem.W.mg_of X G aLG, kLG, bLG, PySem.W.mg_of X G aC, ⟨⟨pg, hd, po, sa⟩, na0, na1⟩, ⟨mk, aI, iI, kc⟩, FIN, bIN, ⟨rdOF, gaOF⟩, ⟨aOF, ⟨_, rcOF⟩, fiOF⟩, FOF, bOF, ⟨⟨pSJN, rJN, aJN, rcJN⟩, kJN⟩, FJN, ⟨aPPC, gPPC, tPPC, ⟨_, rcPPC⟩⟩, FPC, bPC, ⟨aPPR_, gPPR_, tPPR_, ⟨_, rcPPR_⟩⟩, FPR_, bPR_, PySem.W.mg_none_of X G z1, PySem.W.mg_none_of X G z2, PySem.W.mg_none_of X G z3, PySem.W.mg_none_of X G z4, PySem.W.mg_none_of X G z5, PySem.W.mg_none_of X G z6, PySem.W.mg_none_of X G z7, PySem.W.mg_none_of X G z8, PySem.W.mg_none_of X G z9, PySem.W.mg_none_of X G z10, PySem.W.mg_none_of X G z11, PySem.W.mg_none_of X G z12⟩
  exact ⟨PySem.W.fnOf "law" "law" (defArgs I1L.sLaw) (defBody I1L.sLaw) (defScope I1L.sLaw) .none kVLAW dcLAW pmLAW anLAW cdLAW ctLAW, fun s v => .of_eq rfl, fun base _ _ => I1L.ok_law FLAW T⟩
end I1E
open PySem PySem.W PyProof.Rows
set_option maxRecDepth 100000 in
set_option maxHeartbeats 0 in
theorem PySem.Challenge.cw_wearswings_k10_known_counts_holds : PySem.Challenge.rw_wearswings_k10_known_counts.Holds := by
  w_on; o_law; k_head; (case hw => w_witness2)
  k_fill
  refine KW.walk_kept (l := PySem.Challenge.rw_wearswings_k10_known_counts) (n := 63) (k := 7) (x := "script") (sp := I1L.spLaw) rfl (by decide) rfl ⟨rfl, by decide, by decide⟩ (fun w h Y => PySem.W.kIn_of Y) ?F (fun K H a ns hl _ hS => ⟨a, ns, rfl, hS, hl, fun _ => rfl⟩)
  case F =>
    intro w mg fa h KX G hmg
    refine' I1E.all_mk KX G hmg ?aCO ?lCO ?cCO ?kCO ?aRG ?lRG ?cRG ?kRG ?aTP ?lTP ?cTP ?kTP ?aIL ?lIL ?cIL ?kIL ?aBT ?lBT ?cBT ?kBT ?aCH ?lCH ?cCH ?kCH ?aNU ?lNU ?cNU ?kNU ?aRM ?lRM ?cRM ?kRM ?aTK ?lTK ?cTK ?kTK ?aIR ?lIR ?cIR ?kIR ?aMT ?lMT ?cMT ?kMT ?aPB ?lPB ?cPB ?kPB ?aCN ?lCN ?cCN ?kCN ?aFE ?lFE ?cFE ?kFE ?aTA ?lTA ?cTA ?kTA ?aPI ?lPI ?cPI ?kPI ?aRO ?lRO ?cRO ?kRO ?aMV ?lMV ?cMV ?kMV ?aOT ?lOT ?cOT ?kOT ?aLG ?lLG ?cLG ?kLG ?aC ?pg ?hd ?po ?sa ?na0 ?na1 ?mk ?kc ?aI ?iI ?lIN ?cIN ?kIN ?rdOF ?gaOF ?aOF ?rcOF ?fiOF ?lOF ?cOF ?kOF ?aJN ?rcJN ?lJN ?cJN ?kJN ?aPPC ?gPPC ?tPPC ?rcPPC ?lPC ?cPC ?kPC ?aPPR_ ?gPPR_ ?tPPR_ ?rcPPR_ ?lPR_ ?cPR_ ?kPR_ ?z1 ?z2 ?z3 ?z4 ?z5 ?z6 ?z7 ?z8 ?z9 ?z10 ?z11 ?z12 ?aLAW ?lLAW ?cLAW ?kLAW
    (case aCO => k_is)
    (case lCO => k_is)
    (case cCO => k_is)
    (case kCO => k_is)
    (case aRG => k_is)
    (case lRG => k_is)
    (case cRG => k_is)
    (case kRG => k_is)
    (case aTP => k_is)
    (case lTP => k_is)
    (case cTP => k_is)
    (case kTP => k_is)
    (case aIL => k_is)
    (case lIL => k_is)
    (case cIL => k_is)
    (case kIL => k_is)
    (case aBT => k_is)
    (case lBT => k_is)
    (case cBT => k_is)
    (case kBT => k_is)
    (case aCH => k_is)
    (case lCH => k_is)
    (case cCH => k_is)
    (case kCH => k_is)
    (case aNU => k_is)
    (case lNU => k_is)
    (case cNU => k_is)
    (case kNU => k_is)
    (case aRM => k_is)
    (case lRM => k_is)
    (case cRM => k_is)
    (case kRM => k_is)
    (case aTK => k_is)
    (case lTK => k_is)
    (case cTK => k_is)
    (case kTK => k_is)
    (case aIR => k_is)
    (case lIR => k_is)
    (case cIR => k_is)
    (case kIR => k_is)
    (case aMT => k_is)
    (case lMT => k_is)
    (case cMT => k_is)
    (case kMT => k_is)
    (case aPB => k_is)
    (case lPB => k_is)
    (case cPB => k_is)
    (case kPB => k_is)
    (case aCN => k_is)
    (case lCN => k_is)
    (case cCN => k_is)
    (case kCN => k_is)
    (case aFE => k_is)
    (case lFE => k_is)
    (case cFE => k_is)
    (case kFE => k_is)
    (case aTA => k_is)
    (case lTA => k_is)
    (case cTA => k_is)
    (case kTA => k_is)
    (case aPI => k_is)
    (case lPI => k_is)
    (case cPI => k_is)
    (case kPI => k_is)
    (case aRO => k_is)
    (case lRO => k_is)
    (case cRO => k_is)
    (case kRO => k_is)
    (case aMV => k_is)
    (case lMV => k_is)
    (case cMV => k_is)
    (case kMV => k_is)
    (case aOT => k_is)
    (case lOT => k_is)
    (case cOT => k_is)
    (case kOT => k_is)
    (case aLG => k_is)
    (case lLG => k_is)
    (case cLG => k_is)
    (case kLG => k_is)
    (case aC => k_is)
    (case pg => k_is)
    (case hd => k_is)
    (case po => k_is)
    (case sa => k_is)
    (case na0 => k_is)
    (case na1 => k_is)
    (case mk => k_is)
    (case kc => k_is)
    (case aI => k_is)
    (case iI => k_is)
    (case lIN => k_is)
    (case cIN => k_is)
    (case kIN => k_is)
    (case rdOF => k_is)
    (case gaOF => k_is)
    (case aOF => k_is)
    (case rcOF => k_is)
    (case fiOF => k_is)
    (case lOF => k_is)
    (case cOF => k_is)
    (case kOF => k_is)
    (case aJN => k_is)
    (case rcJN => k_is)
    (case lJN => k_is)
    (case cJN => k_is)
    (case kJN => k_is)
    (case aPPC => k_is)
    (case gPPC => k_is)
    (case tPPC => k_is)
    (case rcPPC => k_is)
    (case lPC => k_is)
    (case cPC => k_is)
    (case kPC => k_is)
    (case aPPR_ => k_is)
    (case gPPR_ => k_is)
    (case tPPR_ => k_is)
    (case rcPPR_ => k_is)
    (case lPR_ => k_is)
    (case cPR_ => k_is)
    (case kPR_ => k_is)
    (case z1 => k_is)
    (case z2 => k_is)
    (case z3 => k_is)
    (case z4 => k_is)
    (case z5 => k_is)
    (case z6 => k_is)
    (case z7 => k_is)
    (case z8 => k_is)
    (case z9 => k_is)
    (case z10 => k_is)
    (case z11 => k_is)
    (case z12 => k_is)
    (case aLAW => k_is)
    (case lLAW => k_is)
    (case cLAW => k_is)
    (case kLAW => k_is)

