import PyProof.Rows.All
import Wide.All
import OpenK.AllK
import Wide.FinOn
import HandS.ForMost
import HandS.Flow
import HandS.OwnEq
import HandS.More
import HandS.DictComp
import HandS.List
import KE.KEqDict
import KE.KDictKeyed
import KE.KRevSl
import PyProof.InstNe
import HandS.IsInst
import HandS.SortRule
import HandS.Property
import HandS.ClsMeth
import HandS.Star
import HandS.Codes
import HandS.Strs
import HandS.SetFor
import HandS.RaiseMore
import HandS.Wide
import HandS.Style
import HandS.Walk
import HandS.Zip
import HandS.TupAny
import HandS.Conv
import HandS.Deep
import HandS.Comp
import HandS.Defaults
import PySem.Challenge.RW_wearswings_k30_what_is_a_count
set_option Elab.async false
set_option linter.all false
set_option maxRecDepth 100000
set_option maxHeartbeats 16000000
/-! del xs[-3:-1] of a list of at least three -/
namespace DS
open PySem PySem.Spec PyProof.Rows L2
def sel (start stop step : Int) (i : Nat) : Bool :=
  if step > 0 then start ≤ i && i < stop && (i - start) % step == 0 else stop < i && i ≤ start && (start - i) % (-step) == 0
theorem sel_iff (a c : Int) (i : Nat) : sel a c 1 i = decide (a ≤ i ∧ (i : Int) < c) := by
  unfold sel
  rw [if_pos (by decide)]
  have e : ((((i : Int) - a) % 1) == 0) = true := by rw [Int.emod_one]; rfl
  rw [e, Bool.and_true]
  by_cases h1 : a ≤ (i : Int) <;> by_cases h2 : (i : Int) < c <;> simp [h1, h2]
def cutOut (a c : Int) (xs : Array Value) : Array Value := (xs.toList.zipIdx.filterMap fun (x, k) => if sel a c 1 k then none else some x).toArray
theorem keep_all {a c : Int} : ∀ (l : List Value) (s : Nat), ((s + l.length : Nat) : Int) ≤ a → (l.zipIdx s).filterMap (fun (x, k) => if sel a c 1 k then none else some x) = l
  | [], _, _ => rfl
  | x :: l, s, h => by
    rw [List.zipIdx_cons, List.filterMap_cons]
    have e : sel a c 1 s = false := by rw [sel_iff]; exact decide_eq_false (by simp only [List.length_cons] at h; omega)
    have ih := keep_all (a := a) (c := c) l (s + 1) (by simp only [List.length_cons] at h; omega)
    simp only [e, Bool.false_eq_true, if_false]
    rw [ih]
theorem cut_three (pre : List Value) (x y z : Value) : cutOut ((pre.length : Nat) : Int) (((pre.length + 2 : Nat)) : Int) (pre ++ [x, y, z]).toArray = (pre ++ [z]).toArray := by
  unfold cutOut
  congr 1
  show ((pre ++ [x, y, z]).zipIdx.filterMap _) = _
  rw [List.zipIdx_append, List.filterMap_append, keep_all pre 0 (by omega)]
  congr 1
  have e1 : sel ((pre.length : Nat) : Int) (((pre.length + 2 : Nat)) : Int) 1 pre.length = true := by rw [sel_iff]; exact decide_eq_true (by omega)
  have e2 : sel ((pre.length : Nat) : Int) (((pre.length + 2 : Nat)) : Int) 1 (pre.length + 1) = true := by rw [sel_iff]; exact decide_eq_true (by omega)
  have e3 : sel ((pre.length : Nat) : Int) (((pre.length + 2 : Nat)) : Int) 1 (pre.length + 1 + 1) = false := by rw [sel_iff]; exact decide_eq_false (by omega)
  simp only [Nat.zero_add, List.zipIdx_cons, List.zipIdx_nil, List.filterMap_cons, List.filterMap_nil, e1, e2, e3, if_true, Bool.false_eq_true, if_false]
theorem bounds31 (n : Nat) : sliceBounds (some (-3)) (some (-1)) none (n + 3) = (((n : Nat) : Int), ((n + 2 : Nat) : Int), 1) := by
  simp only [sliceBounds, Option.getD_none]
  have h1 : (-3 : Int) < 0 := by decide
  have h2 : (-1 : Int) < 0 := by decide
  simp only [h1, h2, if_true, show (1 : Int) > 0 by decide]
  congr 1
  · omega
  · congr 1; omega
section
variable {prog : Program} {w : World} {A : Around} {E : Value → Shared → Prop} {s : Shared}
theorem del31 {l sl : Addr} {its : Array Value} {n : Nat} {vl vu : Value} {Q : Unit → Shared → Prop} (e : s.heap.get? l = some { cls := .type "list", data := .seq its n }) (hs : s.heap.IsSliceOf sl vl vu .none)
    (pl : IsPart vl (some (-3))) (pu : IsPart vu (some (-1))) (m : Nat) (hm : its.size = m + 3) (hz : its.size ≤ sizeLine)
    (h : Q () { s with heap := s.heap.update l (Obj.mapSeq (cutOut (m : Int) ((m + 2 : Nat) : Int))) }) : wpAny (model prog w) A (delItem (.ref l) (.ref sl)) Q E s := by
  have hl : s.heap.IsList l its := PySem.IsL.isList e
  obtain ⟨os, hos, hcs, hds⟩ := id hs
  have hT : s.TypeIs (.ref sl) "slice" := ⟨os, hos, hcs⟩
  have hst : ¬ ((rawPart none == rawInt 0) = true) := Bool.false_ne_true
  refine wpAny_delItem_slot hl.typeIs (by decide) F.slot_list_delitem (wpAny_call_entry F.slot_list_delitem hl.typeIs F.entry_list_delitem ?_ (F.args_list_delitem_2 _ _))
  unfold Builtin.«list.__delitem__»
  refine wpAny_bind (wpAny_of_eq (a := (Value.ref l, [Value.ref sl])) (by first | rfl | kernel_rfl) ?_)
  show wpAny _ _ (Builtin.List.listSubscript? (.ref sl) >>= _) _ _ s
  unfold Builtin.List.listSubscript?
  refine wpAny_bind (wpAny_bind (wpAny_specialOf hT slice_no_index ?_))
  simp only [Option.isNone_none, if_true]
  refine wpAny_pure ?_
  show wpAny _ _ (typeOf (.ref sl) >>= _) _ _ s
  refine wpAny_bind (wpAny_typeOf hT ?_)
  first
    | rw [if_neg (by decide)]
    | refine PySem.W.KFB.if_not (by decide) ?_
  rw [listSliceParts_eq]
  refine wpAny_bind (wpAny_bind (wpAny_field hos hds rfl (wpAny_bind (wpAny_listPart .none ?_))))
  rw [if_neg hst]
  refine wpAny_bind (wpAny_field hos hds rfl (wpAny_bind (wpAny_listPart pl ?_)))
  refine wpAny_bind (wpAny_field hos hds rfl (wpAny_bind (wpAny_listPart pu (wpAny_pure ?_))))
  unfold Builtin.List.listItems
  refine wpAny_bind (wpAny_bind (wpAny_seqItems e rfl (wpAny_pure ?_)))
  rw [hm]
  refine wpAny_bind (wpAny_of_eq ((sliceIndices_raw (some (-3)) (some (-1)) none (m + 3) (by simp)).trans (congrArg (pure : Int × Int × Int → Sem (Int × Int × Int)) (bounds31 m))) ?_)
  refine wpAny_bind (wpAny_rule ?_)
  have hz2 : (cutOut (m : Int) ((m + 2 : Nat) : Int) its).size ≤ sizeLine + 1 := by
    unfold cutOut
    rw [List.size_toArray]
    refine Nat.le_trans (List.length_filterMap_le _ _) ?_
    rw [List.length_zipIdx, Array.length_toList]
    omega
  show wpAny _ _ (updateSeq l (cutOut (m : Int) ((m + 2 : Nat) : Int)) >>= _) _ _ s
  refine wpAny_bind (wpAny_updateSeq (hz := hz) (_hz' := hz2) e rfl ?_)
  refine wpAny_bind (wpAny_letGo ?_)
  first
    | exact wpAny_pure ⟨.none, rfl, h⟩
    | exact wpAny_pure h
end
theorem split3 : ∀ {pre : List V} {x1 y1 z1 : V} {its : List Value}, Vals (pre ++ [x1, y1, z1]) its → ∃ ip i1 i2 i3, its = ip ++ [i1, i2, i3] ∧ Vals pre ip ∧ RelV x1 i1 ∧ RelV y1 i2 ∧ RelV z1 i3
  | [], _, _, _, _, .cons r1 (.cons r2 (.cons r3 .nil)) => ⟨[], _, _, _, rfl, .nil, r1, r2, r3⟩
  | _ :: pre, _, _, _, _, .cons r0 t => by
    obtain ⟨ip, i1, i2, i3, e, rp, h⟩ := split3 (pre := pre) t
    exact ⟨_ :: ip, i1, i2, i3, by rw [e]; rfl, .cons r0 rp, h⟩
section
variable {X : Cx}
/-- del xs[-3:-1] of a list of at least three -/
def tDel31 (to : TE) (tl th : TO) : TS := fun D σ H => to σ H fun x H1 => tl σ H1 fun l H2 => th σ H2 fun u H3 => l = some (-3) ∧ u = some (-1) ∧ ∃ (a : Addr) (pre : List V) (x1 y1 z1 : V), x = .ref a ∧ H3 a = some (.lst (pre ++ [x1, y1, z1])) ∧
  D.nx σ (upd H3 a (.lst (pre ++ [z1])))
theorem ps_del31 {o : Expr} {lo hi : Option Expr} {to : TE} {tl th : TO} {tpos p2 pos : Pos} (ho : PE X o to) (hl : PO X lo tl) (hu : PO X hi th) : PS X (.Delete [.Subscript o (.Slice lo hi none p2) tpos] pos) (tDel31 to tl th) := by
  refine ⟨fun pins s σ H D I h => ?_⟩
  refine wpAny_Delete (wpAny_deleteEach_cons (wpAny_delete_Subscript (thn (ho.run pins s σ H _ I h) fun u s1 ⟨x, H1, I1, rx, q1⟩ => ?_)))
  refine wpAny_Slice (thn (hl.run pins s1 σ H1 _ I1 q1) fun vl s2 ⟨l, H2, I2, pl, q2⟩ => thn (hu.run pins s2 σ H2 _ I2 q2) fun vu s3 ⟨w, H3, I3, pu, q3⟩ => ?_)
  rw [evalPart_none]
  refine wpAny_pure ?_
  obtain ⟨e1, e2, a, pre, x1, y1, z1, rfl, hH, q⟩ := q3
  subst e1 e2
  cases (show u = Value.ref a from rx)
  have I4 : Inv X pins σ H3 { s3 with heap := s3.heap.push { cls := .type "slice", data := .fields #[vl, vu, .none] } } := I3.kept (t' := s3.toks) fun b o e => Heap.get?_push_of_some _ e
  obtain ⟨z, its, n, r, hlen, e⟩ := I4.lstM hH
  have hn : its.length = pre.length + 3 := by rw [← hlen]; simp
  obtain ⟨ip, i1, i2, i3, ei, rp, r1, r2, r3⟩ : ∃ ip i1 i2 i3, its = ip ++ [i1, i2, i3] ∧ Vals pre ip ∧ RelV x1 i1 ∧ RelV y1 i2 ∧ RelV z1 i3 := split3 r
  subst ei
  have hp : ip.length = pre.length := rp.length.symm
  refine del31 e (Heap.IsSliceOf.new ..) pl pu pre.length (by rw [List.size_toArray]; exact hn) (by rw [List.size_toArray, ← hlen]; exact z) (wpAny_deleteEach_nil ⟨σ, _, I4.lset (ys := pre ++ [z1]) (its' := ip ++ [i3]) (t' := s3.toks) hH e ?_ (rp.append (.cons r3 .nil)) ?_, q⟩)
  · rw [← hp]
    exact cut_three ip i1 i2 i3
  · have := z
    simp only [List.length_append, List.length_cons, List.length_nil] at this ⊢
    omega
end
end DS

/-! set(xs) of a list of ints, with the order's ledger kept (for sorted behind it) -/
namespace KS
open PySem PySem.Spec PyProof.Rows L2
abbrev leer (w : World) : Obj := { cls := .type "set", dict := none, data := .set #[] 0 (.fresh 0 0 (!w.params.followText "set-order")) }
section
variable {P : Program} {w : World} {A : Around} {E : Value → Shared → Prop} {s : Shared}
/-- what stands behind set's own __init__ -/
abbrev Made (w : World) (s : Shared) (ns : List Int) (Q : Shared → Prop) : Prop :=
  ∀ (g : Heap) (tk c : Nat), SetR w g s.heap.objs.size (fun j => decide (j ∈ ns)) c → c ≤ ns.length → (∀ b o, s.heap.get? b = some o → g.get? b = some o) → Q { s with heap := g, toks := tk }
set_option maxHeartbeats 6400000 in
theorem set_lst {l : Addr} {its : Array Value} (ns : List Int) {Q : Value → Shared → Prop} (hh : A.handled = none) (hl : s.heap.IsList l its) (hit : IntsAre its.toList ns) (hb : ns.length + 1 < scanBound)
    (h : Made w s ns (Q (.ref s.heap.objs.size))) : wpAny (model P w) A (call (.type "set") [.ref l]) Q E s := by
  have hn : its.size = ns.length := by
    rw [← Array.length_toList]; exact IntsAre.length hit
  obtain ⟨c0, t0, hm⟩ := F.called_set.mro
  have k1 := F.called_set.made; have k2 := F.called_set.sub; have k3 := F.called_set.notType; have k4 := F.called_set.canCreate; have k5 := F.typeCall_set_1 (.ref l)
  refine wpAny_call (codeAny_of_tree (show wpAny _ _ (callAny (.type "set") _) _ _ _ from ?_))
  have uu : A.under (.builtin "type.__call__" ⟨[.type "set", .ref l], []⟩) = A.in1 := Around.under_plain (weight_type_call_type "set" [.ref l] []) rfl
  refine wpAny_pure ⟨Code.quiet_builtin _ (by decide +kernel), codeAny_builtin F.entry_type_call ?_⟩
  rw [show A.under (.builtin "type.__call__" { ({ pos := [Value.ref l] } : Args) with pos := .type "set" :: [Value.ref l] }) = A.in1 from uu]
  repeat (any_goals (first | assumption | wp_step))
  have hs0 : (s.heap.push (leer w)).get? s.heap.objs.size = some (leer w) := Heap.get?_push_size _ rfl
  refine codeAny_mono (code_set_led1 (.ref l) (E := E) (Q₁ := fun x s1 => x = .ref s.heap.objs.size ∧ s1 = { s with heap := s.heap.push (leer w) }) ⟨rfl, rfl⟩) fun r1 s1 e1 => ?_
  match r1, e1 with
  | .error _, e1 => exact e1
  | .ok (.next), e1 => exact e1.elim
  | .ok (.brk), e1 => exact e1.elim
  | .ok (.cont), e1 => exact e1.elim
  | .ok (.ret x), e1 =>
    obtain ⟨rfl, rfl⟩ := e1
    have hT : Shared.TypeIs { s with heap := s.heap.push (leer w) } (.ref s.heap.objs.size) "set" := ⟨_, hs0, rfl⟩
    have j1 := F.called_set.init.lookup; have j2 := F.called_set.init.bind (.ref s.heap.objs.size)
    repeat (any_goals (first | assumption | wp_step))
    refine codeAny_mono (codeAny_call_builtin (R := wants (fun v s2 => v = .none ∧ ∃ g tk c, s2 = { s with heap := g, toks := tk } ∧ SetR w g s.heap.objs.size (fun j => decide (j ∈ ns)) c ∧ c ≤ ns.length ∧ ∀ b o, s.heap.get? b = some o → g.get? b = some o) E)
      F.called_set.init.plain F.entry_set_init (check_set_init_1 hT ?_)) fun r2 s2 e2 => ?_
    · obtain ⟨ol, a1, a2, nl, a3⟩ := hl
      obtain ⟨xc, xd, xt, xs⟩ := ol
      simp only at a2 a3
      subst a2 a3
      have a4 : (s.heap.push (leer w)).get? l = some { cls := .type "list", dict := xd, data := .seq its nl, slots := xs } := Heap.get?_push_of_some _ a1
      have b1 := F.sub_list_set; have b2 := F.sub_list_frozenset; have b3 : (Value.type "list" == Value.type "dict") = false := by decide
      have a5 : (s.heap.push (leer w)).IsList l its := ⟨_, a4, rfl, nl, rfl⟩
      unfold Builtin.«set.__init__» noKeywords Builtin.Frozenset.updateFrom
      generalize hPI : pyIter = PI
      wp_walk
      subst hPI
      refine wpAny_pyIter_list a5 (wpAny_bind (wpAny_runValue ?_))
      have lt := Heap.lt_size a1
      have sz : (s.heap.push (leer w)).objs.size = s.heap.objs.size + 1 := Heap.size_push ..
      have d1 : l ≠ (s.heap.push (leer w)).objs.size := by rw [sz]; exact Nat.ne_of_lt (Nat.lt_succ_of_lt lt)
      have d2 : s.heap.objs.size ∉ [(s.heap.push (leer w)).objs.size, l] := by
        rw [sz]; intro z; rcases List.mem_cons.mp z with z | z
        · exact absurd z (Nat.ne_of_lt (Nat.lt_succ_self _))
        · exact absurd (List.mem_singleton.mp z) (Nat.ne_of_gt lt)
      have vl : ∀ i v, its[i]? = some v → ∃ (k : Int) (t : Tok), ns[i]? = some k ∧ v = Value.int k t := fun i v e => by
        have hi : i < ns.length := by rw [← hn]; exact (Array.getElem?_eq_some_iff.mp e).1
        obtain ⟨t, et⟩ := IntsAre.int_at hit i v (by rw [Array.getElem?_toList]; exact e)
        exact ⟨ns[i], t, List.getElem?_eq_getElem hi, by rw [et, List.getD_eq_getElem?_getD, List.getElem?_eq_getElem hi]; rfl⟩
      have hq : A.in1.in1.in1.handled = none := by simp [hh]
      refine set_update_ints ((Walks.list hq _ l d1 its).toS) s.heap.objs.size d2 ns hn hb vl (its.size - 0) 0 _ (by omega) (Nat.zero_le _) ⟨⟨_, Heap.get?_push_size _ rfl, rfl, rfl⟩, a5.push _⟩
        ⟨0, Nat.le_refl 0, setR_new_at (Heap.get?_push_of_some _ hs0)⟩ fun s3 c3 mv hc3 R3 => ?_
      obtain ⟨g3, gg, dd, tk3, oo⟩ := s3
      obtain rfl : gg = s.gens := mv.gens
      obtain rfl : dd = s.drawn := mv.drawn
      obtain rfl : oo = s.os := mv.os
      refine (show wpAny _ _ _ _ _ _ from wpAny_pure (show wpAny _ _ (ret Value.none) _ _ _ from wpAny_pure ⟨rfl, g3, tk3, c3, rfl, R3, by omega, fun b o e => ?_⟩))
      have hb0 := Heap.lt_size e
      exact mv.heap b o (by rw [sz]; intro z; rcases List.mem_cons.mp z with z | z
                            · exact absurd z (Nat.ne_of_lt hb0)
                            · exact absurd (List.mem_singleton.mp z) (Nat.ne_of_lt (Nat.lt_succ_of_lt hb0))) (Heap.get?_push_of_some _ (Heap.get?_push_of_some _ e))
    · match r2, e2 with
      | .error _, e2 => exact e2
      | .ok (.next), e2 => exact e2.elim
      | .ok (.brk), e2 => exact e2.elim
      | .ok (.cont), e2 => exact e2.elim
      | .ok (.ret y), e2 =>
        obtain ⟨rfl, g, tk, c, rfl, R2, hc, hk⟩ := e2
        repeat (any_goals (first | assumption | wp_step))
        exact h _ _ _ R2 hc hk
end
section
variable {X : Cx}
/-- set(xs) of a list of ints -/
def rSetL (w : World) (K : PySem.W.Frag) : List V → Hp → VK → Prop := fun vs H Q => ∃ (a : Addr) (ns : List Int), vs = [V.ref a] ∧ SqL K H a (ns.map V.int) ∧ ns.length ≤ 1000 ∧
  ∀ (p : Addr) (c : Nat), H p = none → c ≤ ns.length → Q (.ref p) (upd H p (SetO w p (fun j => decide (j ∈ ns)) c))
theorem cr_setL (hc : X.calm = true) : CallR X (.type "set") (rSetL X.w X.K) := by
  intro pins s σ H vs us Q I r h
  obtain ⟨a, ns, rfl, hS, hlen, q⟩ := h
  rw [Vals.ref1 r]
  obtain ⟨its, rv, pl, hz⟩ := I.list hS
  refine set_lst ns (I.ok.hd hc) pl.isList (by simpa using ints_of_vals rv) (by unfold scanBound; omega) fun g tk c R hcn k => ?_
  exact ⟨.ref _, _, I.laid (t' := tk) k (Nat.le_refl _) (setO_new R), rfl, q _ c (I.hok.fresh (Nat.le_refl _)) hcn⟩
end
end KS

/-! repr(xs) of a list of ints; a law's def whose body knows that no repr is under way -/
namespace KG
open PySem PySem.Spec PyProof.Rows L2
/-! ### the text of a list of ints -/
def datL (ns : List Int) : PyData := .list (ns.map PyData.int)
def reprL (ns : List Int) : Str := (datL ns).shown
theorem small_log {i : Int} {k : Nat} (h0 : 0 < k) (h : i.natAbs < 2 ^ k) : i.natAbs.log2 < k := PySem.Flt.log2_lt_of h0 h
theorem show_all : ∀ (ns : List Int), (∀ n ∈ ns, n.natAbs < 2 ^ 40) → PyData.showableAll (ns.map PyData.int) = true
  | [], _ => rfl
  | a :: r, h => by
    have h1 : a.natAbs.log2 < 1920 := Nat.lt_of_lt_of_le (small_log (by decide) (h a List.mem_cons_self)) (by decide)
    have h2 := show_all r fun n hn => h n (List.mem_cons_of_mem _ hn)
    simp only [List.map_cons, PyData.showableAll, PyData.showable, h2, h1, decide_true, Bool.and_self]
theorem nodict_all : ∀ (ns : List Int), PyData.hasDictAll (ns.map PyData.int) = false
  | [] => rfl
  | a :: r => by simp only [List.map_cons, PyData.hasDictAll, PyData.hasDict, nodict_all r, Bool.or_self]
theorem depth_all : ∀ (ns : List Int), PyData.depthAll (ns.map PyData.int) ≤ 1
  | [] => Nat.zero_le _
  | a :: r => by
    have := depth_all r
    simp only [List.map_cons, PyData.depthAll, PyData.depth]
    omega
theorem leaves_all : ∀ (ns : List Int), (∀ n ∈ ns, n.natAbs < 10 ^ 12) → PyData.leavesShortAll 13 (ns.map PyData.int) = true
  | [], _ => rfl
  | a :: r, h => by
    have h2 := leaves_all r fun n hn => h n (List.mem_cons_of_mem _ hn)
    have h1 : (PyData.shown (.int a)).length ≤ 13 := by
      have := PySem.int_text_length_le10 (a := a) (k := 12) (by decide) (h a List.mem_cons_self)
      have e : (PyData.shown (.int a)).length = (toString a).length := by
        simp only [PyData.shown]
        exact PySem.ofString_length _
      omega
    simp only [List.map_cons, PyData.leavesShortAll, PyData.leavesShort, h2, Bool.and_true, decide_eq_true_eq]
    exact h1
theorem weight_all : ∀ (ns : List Int), (∀ n ∈ ns, n.natAbs < 2 ^ 39) → PyData.weightAll (ns.map PyData.int) ≤ 60 * ns.length
  | [], _ => Nat.le_refl _
  | a :: r, h => by
    have h1 := weight_all r fun n hn => h n (List.mem_cons_of_mem _ hn)
    have h2 : a.natAbs.log2 < 39 := small_log (by decide) (h a List.mem_cons_self)
    simp only [List.map_cons, PyData.weightAll, PyData.weight, List.length_cons]
    split <;> omega
theorem repr_fits {ns : List Int} (h : ∀ n ∈ ns, n.natAbs < 2 ^ 39) (hl : ns.length ≤ 2000) : (reprL ns).length ≤ sizeLine := by
  refine PyData.shown_fits (B := 13) (by decide) (by decide) ?_ ?_
  · show PyData.leavesShort 13 (.list _) = true
    simp only [PyData.leavesShort, leaves_all ns fun n hn => Nat.lt_trans (h n hn) (by decide)]
  · show PyData.weight (.list _) ≤ _
    have := weight_all ns h
    simp only [PyData.weight]
    omega
theorem reads_all {h : Heap} : ∀ {us : List Value} {ns : List Int}, IntsAre us ns → ReadsAll h us (ns.map PyData.int) []
  | _, _, .nil => .nil
  | _, _, .cons n t r => by
    have z := ReadsAll.cons (Reads.int (h := h) n t) (reads_all r)
    exact z
section
variable {X : Cx}
/-- repr(xs) of a list of ints, while no repr is under way -/
def rReprL (K : PySem.W.Frag) : List V → Hp → VK → Prop := fun vs H Q => ∃ (a : Addr) (ns : List Int), vs = [V.ref a] ∧ SqL K H a (ns.map V.int) ∧ (∀ n ∈ ns, n.natAbs < 2 ^ 39) ∧ ns.length ≤ 2000 ∧ Q (.str (reprL ns)) H
theorem cr_reprL (hg : X.A.guards = some []) (hu : X.A.units + 100 < cLine) : CallR X (.builtin "repr") (rReprL X.K) := by
  intro pins s σ H vs us Q I r h
  obtain ⟨a, ns, rfl, hS, hb, hl, q⟩ := h
  rw [Vals.ref1 r]
  obtain ⟨its, rv, ⟨o, n, ho, hc, hdn, hd⟩, hz⟩ := I.list hS
  have rd : Reads s.heap (.ref a) (datL ns) [a] := .list ho hc hd (reads_all (by simpa using ints_of_vals rv))
  refine repr_of_reads' rd (by show PyData.showable (.list _) = true; simp only [PyData.showable]; exact show_all ns fun m hm => Nat.lt_trans (hb m hm) (by decide)) (PyData.noDict_hsm (by show PyData.hasDict (.list _) = false; simp only [PyData.hasDict]; exact nodict_all ns)) hg
    (by have := depth_all ns; show X.A.units + (PyData.depth (.list _) + 1) < cLine; simp only [PyData.depth]; omega) (fun _ _ e => e) (fun g u tk k => ?_) (repr_fits hb hl)
  exact ⟨.str (reprL ns), H, I.kept k, ⟨u, rfl⟩, q⟩
end
end KG

/-! the def of the law itself, called where no repr is under way -/
namespace KW
open PySem PySem.Spec PyProof.Rows L2
/-- the def at f keeps sp where it is called with no repr under way -/
def Kept (P : Program) (w : World) (K : PySem.W.Frag) (mg : Str → Option Value) (base : Heap) (k : Nat) (f : Addr) (fd : FuncData) (ps : List Str) (sp : Sp) : Prop :=
  ∀ (A : Around) (outer : List Env) (s : Shared) (H : Hp) (args : Args) (us : List Value) (vs : List V) (Q : VK) (E : XK), A.guards = some [] → Room k A → Env0 P w K mg base A outer s H →
    BindsTo s fd args (ps.zip us) → Vals vs us → sp vs H Q E → codeAny (model P w) A (.call (.ref f) args) (CR CX0 outer P w H s Q E) s
section
variable {P : Program} {w : World} {K : PySem.W.Frag} {mg : Str → Option Value} {base : Heap}
theorem kept_of {x qual : Str} {st : Stmt} {f : Addr} {fd : FuncData} {N ps : List Str} {k : Nat} {sp : Sp} (F : Fun K x qual st f fd) (S : FnScope N ps (defScope st)) (len : ∀ vs H Q E, sp vs H Q E → vs.length = ps.length)
    (hb : ∀ (cdv : Value) (A : Around) (outer : List Env) (s : Shared) (H : Hp) (vs : List V) (Q : VK) (E : XK), A.guards = some [] → Room k (A.deeper (envOfC qual (defScope st) s.heap.objs.size f cdv)) → sp vs H Q E →
      ∃ t, PSs (cxOf CX0 P w K mg base N qual (defScope st) f cdv A outer s H E).nox (defBody st) t ∧ t { nx := fun _ H' => Q .non H', rt := Q } (start N vs) H) : Kept P w K mg base (k + 1) f fd ps sp := by
  obtain ⟨oc, od, kV, doc, pm, an, cdv, ct, osl, e1, lk, hcd⟩ := F.ex
  subst e1
  intro A outer s H args us vs Q E hg hr e0 bnd r hsp
  obtain ⟨t, d, q⟩ := hb cdv A outer s H vs Q E hg (hr.deeper _) hsp
  have lv := len _ _ _ _ hsp
  have kin : K.In s.heap := e0.mod.kin.keeps fun b o e => (e0.bs b o e).1
  have kd : ∀ y ∈ ps.zip us, (defScope st).names.lookup y.1 = some .local ∨ ((defScope st).names.lookup y.1 = some .cell ∧ ((cellsFrom (s.heap.objs.size + 1) (defScope st).names []).lookup y.1).isSome = true) := by
    rintro ⟨n, v⟩ hy
    exact (S.par n (List.of_mem_zip hy).1).imp id fun z => ⟨z, PySem.W.cellsFrom_some _ _ _ (.inl z)⟩
  refine codeAny_call_function hr.depth (kin _ _ lk) rfl S.co S.gen rfl (PySem.W.codeRec_of kin hcd) (bnd _ _ _ _ (wpAny_newFunctionEnv_cells S.kind kd fun env he s1 x1 => ?_))
  subst he
  refine ⟨(e0.mod.nolimit.keeps fun b o e => (e0.bs b o e).1).keeps x1.toInCall.keep, codeAny_func (wpAny_mono (d.nox.run [] s1 (start N vs) H _ (inv_start S hr.hd e0 lv r x1) q) (fun fl s2 z => ?_) fun _ _ z => z)⟩
  match fl, z with
  | .ret u, ⟨v, σ2, H2, J, rv, q2⟩ => exact ⟨v, H2, J.os, J.bare, J.base, J.hok, rv, q2⟩
  | .next, ⟨σ2, H2, J, q2⟩ => exact ⟨V.non, H2, J.os, J.bare, J.base, J.hok, rfl, q2⟩
  | .brk, ⟨_, _, _, q2⟩ => exact q2.elim
  | .cont, ⟨_, _, _, q2⟩ => exact q2.elim
/-- the heap that tracks the script alone, or nothing where it is the text's own -/
def hpOf (K : PySem.W.Frag) (a : Addr) (o : Obj) (xs : List V) : Hp := fun b => if b = a ∧ K.lookup a = none then some (.frz o (.lst xs)) else none
theorem hpOf_some {K : PySem.W.Frag} {a b : Addr} {o : Obj} {xs : List V} {u : HO} (e : hpOf K a o xs b = some u) : b = a ∧ K.lookup a = none ∧ u = .frz o (.lst xs) := by
  unfold hpOf at e
  split at e
  · rename_i z
    exact ⟨z.1, z.2, (Option.some.inj e).symm⟩
  · cases e
theorem run_law {mb : Str → Option Value} {k : Nat} {fa a : Addr} {fd : FuncData} {x : Str} {sp : Sp} {s1 : Shared} {vs : List Value} {ns : List Int}
    (kin : K.In s1.heap) (h1 : s1.heap.Ns mainGlobals mg) (h2 : s1.heap.Ns builtinsNs mb) (h3 : ∀ y : Str, y ≠ "__name__" → mb y = bootBuiltins y) (h4 : s1.heap.NoLimit) (h5 : s1.gens = #[])
    (ha : s1.heap.get? a = some { cls := .type "list", data := .seq vs.toArray }) (hi : IntsAre vs ns) (hl : ns.length ≤ sizeLine) (hr : Room k callerA)
    (F : ∀ bs : Heap, K.In bs → bs.Ns mainGlobals mg → Kept P w K mg bs k fa fd [x] sp) (hbd : ∀ (s : Shared) (u : Value), BindsTo s fd ⟨[u], []⟩ [(x, u)])
    (hsp : ∀ H : Hp, Only H → SqL K H a (ns.map V.int) → sp [.ref a] H (fun v _ => v = .bl true) fun _ _ _ => False) :
    codeAny (model P w) callerA (.call (.ref fa) ⟨[.ref a], []⟩) (fun r s' => r = .ok (.ret (.bool true)) ∧ OldK s1.heap s'.heap ∧ s'.os = s1.os ∧ AllBare s'.gens) s1 := by
  have rv := vals_ints hi
  let ob : Obj := { cls := .type "list", data := .seq vs.toArray }
  generalize hH : hpOf K a ob (ns.map V.int) = H
  have hsome : ∀ {b u}, H b = some u → b = a ∧ K.lookup a = none ∧ u = .frz ob (.lst (ns.map V.int)) := fun {b u} e => hpOf_some (by rw [hH]; exact e)
  have hO : Only H := fun b => by
    cases e : H b with
    | none => exact .inl rfl
    | some u => exact .inr ⟨_, _, by rw [(hsome e).2.2]⟩
  have hS : SqL K H a (ns.map V.int) := by
    cases e : K.lookup a with
    | none => exact .inl (.inr ⟨ob, by rw [← hH]; exact if_pos ⟨rfl, e⟩⟩)
    | some o =>
      have e2 := kin a o e
      rw [ha] at e2
      cases e2
      exact .inr ⟨_, vs.toArray, _, e, rfl, rfl, rfl, by rw [List.size_toArray, hi.length]; exact hl, by simpa using rv⟩
  have hok : HOk P w H s1.heap := fun b u e => by
    obtain ⟨rfl, _, rfl⟩ := hsome e
    exact ⟨ha, by rw [List.length_map]; exact hl, vs, _, rv, ha⟩
  have free : ∀ {b : Addr} {o : Obj} {es : Array DictEntry} {ep : Nat}, s1.heap.get? b = some o → o.data = .dict es ep → H b = none := fun {b o es ep} e d => by
    cases z : H b with
    | none => rfl
    | some u =>
      obtain ⟨rfl, _, _⟩ := hsome z
      rw [ha] at e
      cases e
      cases d
  have toB : ∀ {b : Addr} {m : Str → Option Value}, s1.heap.Ns b m → (hidT s1.heap H).Ns b m := fun {b m} ⟨o, es, ep, e, d, r⟩ => ⟨o, es, ep, hidT_get e (free e d), d, r⟩
  have kB : K.In (hidT s1.heap H) := fun b o e => hidT_get (kin b o e) (by
    cases z : H b with
    | none => rfl
    | some u =>
      obtain ⟨rfl, z2, _⟩ := hsome z
      rw [z2] at e
      cases e)
  obtain ⟨mc, m1, m2⟩ := h4
  have e0 : Env0 P w K mg (hidT s1.heap H) callerA [] s1 H := ⟨rfl, ⟨kB, toB h1, ⟨mb, toB h2, h3⟩, ⟨mc, toB m1, m2⟩⟩, fun b o e => of_hidT e, Nat.le_of_eq (hidT_size _ _), trivial, fun b hb => (List.not_mem_nil (show b ∈ ([] : List Addr) from hb)).elim, hok, .of_eq h5⟩
  refine codeAny_mono (F _ kB (toB h1) callerA [] s1 H ⟨[.ref a], []⟩ [.ref a] [.ref a] _ _ rfl hr e0 (hbd s1 (.ref a)) (.cons rfl .nil) (hsp H hO hS)) fun r s2 z => ?_
  match r, z with
  | .error _, z => exact z.elim
  | .ok .next, z => exact z.elim
  | .ok .brk, z => exact z.elim
  | .ok .cont, z => exact z.elim
  | .ok (.ret u), ⟨v, H2, os, bare, un, hok2, rr, q⟩ =>
    have q2 : v = .bl true := q
    subst q2
    obtain rfl : u = Value.bool true := rr
    refine ⟨rfl, OldK.of_keep fun b o e => ?_, os, bare⟩
    cases z : H b with
    | none => exact un.keep b o e z (fun m => (List.not_mem_nil (show b ∈ ([] : List Addr) from m)).elim) (by simp)
    | some u =>
      obtain ⟨_, _, rfl⟩ := hsome z
      have t1 := (hok b _ z).1
      have t2 := (hok2 b _ (un.frzs b ob _ z)).1
      rw [e] at t1
      rw [t2, ← t1]
/-- the end: the law's promise over the written part alone -/
theorem walk_kept {l : PySem.W.OpenLaw} {n k : Nat} {q : Program} {loose : List Str} {XP : (Str → Option Value) → Heap → Prop} {YP : World → Heap → Prop} {d : DefRec} {KK : Params → PySem.W.Frag} {sp : PySem.W.Frag → Sp} {x : Str}
    (hn : l.most = some n) (hn2 : n ≤ sizeLine) (hdf : d.params.defaults = []) (hr : Room k callerA) (hY : ∀ (w : World) (h : Heap), YP w h → (KK w.params).In h)
    (F : ∀ (w : World) (mg : Str → Option Value) (fa : Addr) (h : Heap), (KK w.params).In h → h.Ns mainGlobals mg → mg d.name = some (.ref fa) →
      ∃ fd : FuncData, (∀ (s : Shared) (u : Value), BindsTo s fd ⟨[u], []⟩ [(x, u)]) ∧ ∀ bs : Heap, (KK w.params).In bs → bs.Ns mainGlobals mg → Kept l.prog w (KK w.params) mg bs k fa fd [x] (sp (KK w.params)))
    (hsp : ∀ (K : PySem.W.Frag) (H : Hp) (a : Addr) (ns : List Int), ns.length ≤ n → Only H → SqL K H a (ns.map V.int) → sp K [.ref a] H (fun v _ => v = .bl true) fun _ _ _ => False) :
    PySem.W.WalkO q loose XP YP l.row.toRowW d [] (fun f vs => PySem.call f vs) := by
  refine Att.attach_call hn hdf fun w s0 s1 mg mb fa o pm cd doc a vs ns G Y ho hd hcd hmg hobj hints hlen hg => ?_
  obtain ⟨fd, hb, hF⟩ := F w mg fa _ (hY w _ Y) G.T.g hmg
  exact run_law (hY w _ Y) G.T.g G.T.b G.T.builtins G.T.nolimit hg hobj hints (Nat.le_trans hlen hn2) hr hF hb fun H hO hS => hsp (KK w.params) H a ns hlen hO hS
end
end KW

/-! turning points, as mathematics: the stack's way and the law's way -/
namespace PM
/-- r lies between its neighbours b and a -/
abbrev Btw (r b a : Int) : Prop := (b < r ∧ r < a) ∨ (a < r ∧ r < b)
/-- the stack's way from b, a (a on top) on -/
def tq : Int → Int → List Int → List Int
  | _, a, [] => [a]
  | b, a, r :: l => if a = r then tq b a l else if Btw a b r then tq b r l else a :: tq a r l
def ts : Int → List Int → List Int
  | a, [] => [a]
  | a, r :: l => if a = r then ts a l else a :: tq a r l
def tp : List Int → List Int
  | [] => []
  | x :: l => ts x l
/-- repeated readings once -/
def ddf : Int → List Int → List Int
  | _, [] => []
  | p, x :: l => if x = p then ddf p l else x :: ddf x l
def dd : List Int → List Int
  | [] => []
  | x :: l => x :: ddf x l
/-- the law's way, over readings that differ from their neighbours -/
def lq : Int → Int → List Int → List Int
  | _, c, [] => [c]
  | p, c, d :: l => if (decide (c > p) = decide (c > d)) then c :: lq c d l else lq c d l
def lp : List Int → List Int
  | [] => []
  | [x] => [x]
  | x :: y :: l => x :: lq x y l
theorem tq_lq : ∀ (l : List Int) (b p a : Int), a ≠ b → a ≠ p → (a > b ↔ a > p) → tq b a l = lq p a (ddf a l)
  | [], _, _, _, _, _, _ => rfl
  | r :: l, b, p, a, h1, h2, h3 => by
    simp only [tq, ddf]
    by_cases e : a = r
    · rw [if_pos e, if_pos e.symm]
      exact tq_lq l b p a h1 h2 h3
    · rw [if_neg e, if_neg (show ¬ r = a from fun z => e z.symm)]
      simp only [lq]
      by_cases bt : Btw a b r
      · rw [if_pos bt]
        have hk : ¬ (decide (a > p) = decide (a > r)) := by
          intro z
          rw [decide_eq_decide] at z
          omega
        rw [if_neg hk]
        exact tq_lq l b a r (by omega) (fun z => e z.symm) (by omega)
      · rw [if_neg bt]
        have hk : decide (a > p) = decide (a > r) := by
          rw [decide_eq_decide]
          omega
        rw [if_pos hk]
        rw [tq_lq l a a r (fun z => e z.symm) (fun z => e z.symm) Iff.rfl]
theorem ts_lp : ∀ (l : List Int) (a : Int), ts a l = lp (a :: ddf a l)
  | [], _ => rfl
  | r :: l, a => by
    simp only [ts, ddf]
    by_cases e : a = r
    · rw [if_pos e, if_pos e.symm]
      exact ts_lp l a
    · rw [if_neg e, if_neg (show ¬ r = a from fun z => e z.symm)]
      rw [tq_lq l a a r (fun z => e z.symm) (fun z => e z.symm) Iff.rfl]
      rfl
theorem tp_lp (ns : List Int) : tp ns = lp (dd ns) := by
  cases ns with
  | nil => rfl
  | cons a l => exact ts_lp l a
/-- what the stack leaves, goes through the stack as it is -/
theorem tq_again : ∀ (l : List Int) (b a : Int), a ≠ b → ∃ x s, tq b a l = x :: s ∧ x ≠ b ∧ (x > b ↔ a > b) ∧ tq b x s = x :: s
  | [], b, a, h => ⟨a, [], rfl, h, Iff.rfl, rfl⟩
  | r :: l, b, a, h => by
    simp only [tq]
    by_cases e : a = r
    · rw [if_pos e]
      exact tq_again l b a h
    · rw [if_neg e]
      by_cases bt : Btw a b r
      · rw [if_pos bt]
        obtain ⟨x, s, h1, h2, h3, h4⟩ := tq_again l b r (by omega)
        exact ⟨x, s, h1, h2, by omega, h4⟩
      · rw [if_neg bt]
        obtain ⟨y, s, h1, h2, h3, h4⟩ := tq_again l a r (fun z => e z.symm)
        refine ⟨a, y :: s, by rw [h1], h, Iff.rfl, ?_⟩
        simp only [tq]
        have n1 : ¬ Btw a b y := by
          intro z
          have h6 : r > a ↔ y > a := h3.symm
          omega
        rw [if_neg (fun z : a = y => h2 z.symm), if_neg n1, h4]
theorem ts_again : ∀ (l : List Int) (a : Int), tp (ts a l) = ts a l
  | [], _ => rfl
  | r :: l, a => by
    simp only [ts]
    by_cases e : a = r
    · rw [if_pos e]
      exact ts_again l a
    · rw [if_neg e]
      obtain ⟨x, s, h1, h2, _, h4⟩ := tq_again l a r (fun z => e z.symm)
      rw [h1]
      show ts a (x :: s) = a :: x :: s
      simp only [ts]
      rw [if_neg (fun z : a = x => h2 z.symm), h4]
theorem tp_again (ns : List Int) : tp (tp ns) = tp ns := by
  cases ns with
  | nil => rfl
  | cons a l => exact ts_again l a
theorem tq_last : ∀ (l : List Int) (b a z : Int), (a :: l).getLast? = some z → tq b a (l ++ [z]) = tq b a l
  | [], b, a, z, h => by
    have e : a = z := Option.some.inj h
    subst e
    show tq b a [a] = [a]
    simp only [tq, if_true]
  | r :: l, b, a, z, h => by
    have h2 : (r :: l).getLast? = some z := by rw [List.getLast?_cons_cons] at h; exact h
    show tq b a (r :: (l ++ [z])) = tq b a (r :: l)
    simp only [tq]
    by_cases e : a = r
    · rw [if_pos e, if_pos e]
      subst e
      exact tq_last l b a z h2
    · rw [if_neg e, if_neg e, tq_last l b r z h2, tq_last l a r z h2]
theorem ts_last : ∀ (l : List Int) (a z : Int), (a :: l).getLast? = some z → ts a (l ++ [z]) = ts a l
  | [], a, z, h => by
    have e : a = z := Option.some.inj h
    subst e
    show ts a [a] = [a]
    simp only [ts, if_true]
  | r :: l, a, z, h => by
    have h2 : (r :: l).getLast? = some z := by rw [List.getLast?_cons_cons] at h; exact h
    show ts a (r :: (l ++ [z])) = ts a (r :: l)
    simp only [ts]
    by_cases e : a = r
    · rw [if_pos e, if_pos e]
      subst e
      exact ts_last l a z h2
    · rw [if_neg e, if_neg e, tq_last l a r z h2]
theorem tp_last (ns : List Int) (z : Int) (h : ns.getLast? = some z) : tp (ns ++ [z]) = tp ns := by
  cases ns with
  | nil => simp at h
  | cons a l => exact ts_last l a z h
/-- sizes and bounds -/
theorem tq_mem : ∀ (l : List Int) (b a x : Int), x ∈ tq b a l → x = a ∨ x ∈ l
  | [], _, _, x, h => .inl (List.mem_singleton.mp h)
  | r :: l, b, a, x, h => by
    simp only [tq] at h
    split at h
    · rcases tq_mem l b a x h with z | z
      · exact .inl z
      · exact .inr (List.mem_cons_of_mem _ z)
    · split at h
      · rcases tq_mem l b r x h with z | z
        · rw [z]; exact .inr List.mem_cons_self
        · exact .inr (List.mem_cons_of_mem _ z)
      · rcases List.mem_cons.mp h with z | z
        · exact .inl z
        · rcases tq_mem l a r x z with z | z
          · rw [z]; exact .inr List.mem_cons_self
          · exact .inr (List.mem_cons_of_mem _ z)
theorem tq_len : ∀ (l : List Int) (b a : Int), (tq b a l).length ≤ l.length + 1
  | [], _, _ => Nat.le_refl _
  | r :: l, b, a => by
    have h1 := tq_len l b a
    have h2 := tq_len l b r
    have h3 := tq_len l a r
    simp only [tq, List.length_cons]
    split
    · omega
    · split
      · omega
      · rw [List.length_cons]; omega
theorem ts_mem : ∀ (l : List Int) (a x : Int), x ∈ ts a l → x = a ∨ x ∈ l
  | [], _, x, h => .inl (List.mem_singleton.mp h)
  | r :: l, a, x, h => by
    simp only [ts] at h
    split at h
    · rcases ts_mem l a x h with z | z
      · exact .inl z
      · exact .inr (List.mem_cons_of_mem _ z)
    · rcases List.mem_cons.mp h with z | z
      · exact .inl z
      · rcases tq_mem l a r x z with z | z
        · rw [z]; exact .inr List.mem_cons_self
        · exact .inr (List.mem_cons_of_mem _ z)
theorem ts_len : ∀ (l : List Int) (a : Int), (ts a l).length ≤ l.length + 1
  | [], _ => Nat.le_refl _
  | r :: l, a => by
    have h1 := ts_len l a
    have h2 := tq_len l a r
    simp only [ts, List.length_cons]
    split
    · omega
    · rw [List.length_cons]; omega
theorem tp_mem {ns : List Int} {x : Int} (h : x ∈ tp ns) : x ∈ ns := by
  cases ns with
  | nil => exact h
  | cons a l =>
    rcases ts_mem l a x h with z | z
    · rw [z]; exact List.mem_cons_self
    · exact List.mem_cons_of_mem _ z
theorem tp_len (ns : List Int) : (tp ns).length ≤ ns.length := by
  cases ns with
  | nil => exact Nat.le_refl _
  | cons a l => exact ts_len l a
/-- the swings of turning points -/
def rg (a b : Int) : Int × Int := (if b < a then b else a, if b > a then b else a)
def sw : List Int → List (Int × Int)
  | x :: y :: l => rg x y :: sw (y :: l)
  | _ => []
theorem sw_len : ∀ ps : List Int, (sw ps).length = ps.length - 1
  | [] => rfl
  | [_] => rfl
  | x :: y :: l => by
    have := sw_len (y :: l)
    simp only [sw, List.length_cons] at this ⊢
    omega
theorem sw_take : ∀ (ps : List Int) (i : Nat) (x y : Int), ps[i]? = some x → ps[i + 1]? = some y → (sw ps).take (i + 1) = (sw ps).take i ++ [rg x y]
  | [], _, _, _, h, _ => by simp at h
  | [_], 0, _, _, _, h => by simp at h
  | [_], i + 1, _, _, h, _ => by simp at h
  | a :: b :: l, 0, x, y, h, h2 => by
    have e1 : a = x := Option.some.inj h
    have e2 : b = y := Option.some.inj h2
    subst e1 e2
    rfl
  | a :: b :: l, i + 1, x, y, h, h2 => by
    have ih := sw_take (b :: l) i x y h h2
    show rg a b :: (sw (b :: l)).take (i + 1) = rg a b :: (sw (b :: l)).take i ++ [rg x y]
    rw [ih]
    rfl
theorem sw_mem : ∀ (ps : List Int) (B : Nat), (∀ x ∈ ps, x.natAbs < B) → ∀ r ∈ sw ps, r.1.natAbs < B ∧ r.2.natAbs < B
  | [], _, _, r, h => by simp [sw] at h
  | [_], _, _, r, h => by simp [sw] at h
  | x :: y :: l, B, hb, r, h => by
    rcases List.mem_cons.mp (show r ∈ rg x y :: sw (y :: l) from h) with z | z
    · have h1 := hb x List.mem_cons_self
      have h2 := hb y (List.mem_cons_of_mem _ List.mem_cons_self)
      rw [z]
      unfold rg
      constructor <;> (dsimp only; split <;> assumption)
    · exact sw_mem (y :: l) B (fun x hx => hb x (List.mem_cons_of_mem _ hx)) r z
end PM

/-! points taken out, in any order: one count -/
namespace RM
open PM
/-- of four points in a row, the middle two may be taken out -/
abbrev Taken (a b c d : Int) : Prop := ((rg a b).1 ≤ (rg b c).1 ∧ (rg b c).2 ≤ (rg a b).2) ∧ ((rg c d).1 ≤ (rg b c).1 ∧ (rg b c).2 ≤ (rg c d).2)
/-- up and down by turns -/
def ZZ : List Int → Prop
  | x :: y :: z :: r => ((x < y ∧ z < y) ∨ (y < x ∧ y < z)) ∧ ZZ (y :: z :: r)
  | [x, y] => x ≠ y
  | _ => True
inductive Step : List Int → Int × Int → List Int → Prop
  | here {a b c d : Int} {post : List Int} : Taken a b c d → Step (a :: b :: c :: d :: post) (rg b c) (a :: d :: post)
  | there {x : Int} {p q : List Int} {cy : Int × Int} : Step p cy q → Step (x :: p) cy (x :: q)
theorem ZZ.tail {x : Int} : ∀ {p : List Int}, ZZ (x :: p) → ZZ p
  | [], _ => trivial
  | [_], _ => trivial
  | [y, z], h => by
    have h1 := h.1
    show y ≠ z
    omega
  | y :: z :: u :: r, h => h.2
theorem Step.head {x : Int} {p q : List Int} {cy : Int × Int} (h : Step (x :: p) cy q) : ∃ q', q = x :: q' := by
  cases h with
  | here _ => exact ⟨_, rfl⟩
  | there _ => exact ⟨_, rfl⟩
theorem Step.len {p q : List Int} {cy : Int × Int} (h : Step p cy q) : p.length = q.length + 2 := by
  induction h with
  | here _ => simp only [List.length_cons]
  | there _ ih => simp only [List.length_cons]; omega
theorem rg_up {a b : Int} (h : a < b) : rg a b = (a, b) := by unfold rg; rw [if_neg (by omega), if_pos (by omega)]
theorem rg_down {a b : Int} (h : b < a) : rg a b = (b, a) := by unfold rg; rw [if_pos h, if_neg (by omega)]
/-- among points that go up and down -/
theorem taken_iff {a b c d : Int} (h : ZZ (a :: b :: c :: d :: [])) : Taken a b c d ↔ (a < b ∧ c < b ∧ c < d ∧ a ≤ c ∧ b ≤ d) ∨ (b < a ∧ b < c ∧ d < c ∧ c ≤ a ∧ d ≤ b) := by
  have h1 := h.1
  have h2 := h.2.1
  unfold Taken
  rcases h1 with ⟨x, y⟩ | ⟨x, y⟩
  · have z : c < d := by omega
    rw [rg_up x, rg_down y, rg_up z]
    dsimp only
    omega
  · have z : d < c := by omega
    rw [rg_down x, rg_up y, rg_down z]
    dsimp only
    omega
theorem ZZ.four {a b c d : Int} {r : List Int} (h : ZZ (a :: b :: c :: d :: r)) : ZZ (a :: b :: c :: d :: []) := by
  refine ⟨h.1, h.2.1, ?_⟩
  have := h.2.1
  show c ≠ d
  omega
theorem zz_here {a b c d : Int} : ∀ {post : List Int}, ZZ (a :: b :: c :: d :: post) → Taken a b c d → ZZ (a :: d :: post)
  | [], h, t => by
    rcases (taken_iff h.four).mp t with z | z
    · show a ≠ d
      omega
    · show a ≠ d
      omega
  | e :: r, h, t => by
    have h3 := h.2.2.1
    refine ⟨?_, h.2.2.2⟩
    rcases (taken_iff h.four).mp t with z | z <;> omega
theorem zz_cons {x y : Int} {p : List Int} (h : ZZ (x :: y :: p)) : x ≠ y := by
  cases p with
  | nil => exact h
  | cons z r => have := h.1; omega
theorem ZZ.step {p q : List Int} {cy : Int × Int} (h : Step p cy q) : ZZ p → ZZ q := by
  induction h with
  | here t => exact fun z => zz_here z t
  | @there x p q cy h ih =>
    intro z
    have zq := ih z.tail
    cases h with
    | @here a b c d post t =>
      have z1 := z.1
      have ti := (taken_iff z.tail.four).mp t
      refine ⟨?_, zq⟩
      rcases ti with t | t <;> omega
    | @there y p' q' cy' h' =>
      cases q' with
      | nil =>
        have := h'.len
        exact zz_cons z
      | cons u v =>
        cases p' with
        | nil => have := h'.len; simp at this
        | cons u' v' =>
          obtain ⟨v'', e⟩ := h'.head
          have e1 : u = u' := (List.cons.inj e).1
          subst e1
          exact ⟨z.1, zq⟩
/-- two ways to go on meet again -/
theorem diamond {p p1 : List Int} {c1 : Int × Int} (h1 : Step p c1 p1) : ∀ {p2 : List Int} {c2 : Int × Int}, Step p c2 p2 → ZZ p → (c1 = c2 ∧ p1 = p2) ∨ ∃ p3, Step p1 c2 p3 ∧ Step p2 c1 p3 := by
  have key : ∀ {a b c d : Int} {post : List Int} {p2 : List Int} {c2 : Int × Int}, Taken a b c d → Step (b :: c :: d :: post) c2 p2 → ZZ (a :: b :: c :: d :: post) →
      (rg b c = c2 ∧ a :: d :: post = a :: p2) ∨ ∃ p3, Step (a :: d :: post) c2 p3 ∧ Step (a :: p2) (rg b c) p3 := by
    intro a b c d post p2 c2 t h z
    have t1 := (taken_iff z.four).mp t
    cases h with
    | @here _ _ _ e post' t2 =>
      have t3 := (taken_iff z.tail.four).mp t2
      have ebd : b = d := by omega
      subst ebd
      refine .inl ⟨?_, rfl⟩
      have z1 := z.1
      rcases z1 with ⟨x, y⟩ | ⟨x, y⟩
      · rw [rg_down y, rg_up y]
      · rw [rg_up y, rg_down y]
    | @there _ _ q2 _ h2 =>
      cases h2 with
      | @here _ _ e f post' t2 =>
        have t3 := (taken_iff z.tail.tail.four).mp t2
        have za : ZZ (a :: d :: e :: f :: post') := zz_here z t
        have zb : ZZ (a :: b :: c :: f :: post') := ZZ.step (.there (.there (.here t2))) z
        exact .inr ⟨a :: f :: post', .here ((taken_iff za.four).mpr (by omega)), .here ((taken_iff zb.four).mpr (by omega))⟩
      | @there _ _ q3 _ h3 =>
        obtain ⟨q4, rfl⟩ := h3.head
        exact .inr ⟨a :: d :: q4, .there h3, .here t⟩
  induction h1 with
  | @here a b c d post t =>
    intro p2 c2 h2 z
    cases h2 with
    | here _ => exact .inl ⟨rfl, rfl⟩
    | @there _ _ q2 _ h2 => exact key t h2 z
  | @there x p q cy h1 ih =>
    intro p2 c2 h2 z
    cases h2 with
    | @here a b c d post t =>
      rcases key t h1 z with ⟨e1, e2⟩ | ⟨p3, s1, s2⟩
      · exact .inl ⟨e1.symm, e2.symm⟩
      · exact .inr ⟨p3, s2, s1⟩
    | @there _ _ q2 _ h2 =>
      rcases ih h2 z.tail with ⟨e1, e2⟩ | ⟨p3, s1, s2⟩
      · exact .inl ⟨e1, by rw [e2]⟩
      · exact .inr ⟨x :: p3, .there s1, .there s2⟩
inductive Run : List Int → List (Int × Int) → List Int → Prop
  | nil (p : List Int) : Run p [] p
  | cons {p q r : List Int} {c : Int × Int} {cs : List (Int × Int)} : Step p c q → Run q cs r → Run p (c :: cs) r
/-- nothing can be taken out -/
def NF (p : List Int) : Prop := ∀ c q, ¬ Step p c q
theorem Run.snoc {p q r : List Int} {c : Int × Int} {cs : List (Int × Int)} (h : Run p cs q) (s : Step q c r) : Run p (cs ++ [c]) r := by
  induction h with
  | nil p => exact .cons s (.nil _)
  | cons h1 _ ih => exact .cons h1 (ih s)
theorem Run.zz {p q : List Int} {cs : List (Int × Int)} (h : Run p cs q) : ZZ p → ZZ q := by
  induction h with
  | nil p => exact id
  | cons h1 _ ih => exact fun z => ih (ZZ.step h1 z)
theorem Run.len {p q : List Int} {cs : List (Int × Int)} (h : Run p cs q) : p.length = q.length + 2 * cs.length := by
  induction h with
  | nil p => simp
  | cons h1 _ ih => have := h1.len; rw [List.length_cons]; omega
theorem ends : ∀ (n : Nat) (p : List Int), p.length ≤ n → ∃ cs r, Run p cs r ∧ NF r
  | 0, p, h => ⟨[], p, .nil p, fun c q s => by have := s.len; omega⟩
  | n + 1, p, h => by
    by_cases e : ∃ c q, Step p c q
    · obtain ⟨c, q, s⟩ := e
      have := s.len
      obtain ⟨cs, r, h1, h2⟩ := ends n q (by omega)
      exact ⟨c :: cs, r, .cons s h1, h2⟩
    · exact ⟨[], p, .nil p, fun c q s => e ⟨c, q, s⟩⟩
/-- in whatever order points are taken out, the same cycles and the same rest come out -/
theorem unique : ∀ (n : Nat) (p : List Int), p.length ≤ n → ZZ p → ∀ {cs ds : List (Int × Int)} {r s : List Int}, Run p cs r → NF r → Run p ds s → NF s → r = s ∧ cs.Perm ds := by
  intro n
  induction n with
  | zero =>
    intro p hp z cs ds r s h1 n1 h2 n2
    cases h1 with
    | nil _ => cases h2 with
      | nil _ => exact ⟨rfl, .nil⟩
      | cons s2 _ => exact absurd s2 (n1 _ _)
    | cons s1 _ => have := s1.len; omega
  | succ n ih =>
    intro p hp z cs ds r s h1 n1 h2 n2
    cases h1 with
    | nil _ => cases h2 with
      | nil _ => exact ⟨rfl, .nil⟩
      | cons s2 _ => exact absurd s2 (n1 _ _)
    | @cons _ q1 _ c1 cs' s1 r1 =>
      cases h2 with
      | nil _ => exact absurd s1 (n2 _ _)
      | @cons _ q2 _ c2 ds' s2 r2 =>
        have l1 := s1.len
        have l2 := s2.len
        rcases diamond s1 s2 z with ⟨e1, e2⟩ | ⟨p3, t1, t2⟩
        · subst e1 e2
          obtain ⟨e, pm⟩ := ih q1 (by omega) (ZZ.step s1 z) r1 n1 r2 n2
          exact ⟨e, pm.cons _⟩
        · obtain ⟨es, t, r3, n3⟩ := ends p3.length p3 (Nat.le_refl _)
          obtain ⟨e1, m1⟩ := ih q1 (by omega) (ZZ.step s1 z) r1 n1 (.cons t1 r3) n3
          obtain ⟨e2, m2⟩ := ih q2 (by omega) (ZZ.step s2 z) r2 n2 (.cons t2 r3) n3
          refine ⟨e1.trans e2.symm, ?_⟩
          exact ((m1.cons c1).trans (.swap c2 c1 es)).trans (m2.symm.cons c2)
theorem one_count {p : List Int} (z : ZZ p) {cs ds : List (Int × Int)} {r s : List Int} (h1 : Run p cs r) (n1 : NF r) (h2 : Run p ds s) (n2 : NF s) : r = s ∧ cs.Perm ds := unique p.length p (Nat.le_refl _) z h1 n1 h2 n2
/-! ### the stack's way -/
theorem Step.suffix {p q : List Int} {cy : Int × Int} (h : Step p cy q) (l : List Int) : Step (p ++ l) cy (q ++ l) := by
  induction h with
  | here t => exact .here t
  | there _ ih => exact .there ih
theorem Step.prefix {p q : List Int} {cy : Int × Int} (h : Step p cy q) : ∀ l : List Int, Step (l ++ p) cy (l ++ q)
  | [] => h
  | x :: l => .there (h.prefix l)
theorem step_last {p : List Int} {cy : Int × Int} {q : List Int} (h : Step p cy q) : ∀ {m : List Int} {x : Int}, p = m ++ [x] → (∃ q', Step m cy q' ∧ q = q' ++ [x]) ∨ ∃ pre a b c, p = pre ++ [a, b, c, x] ∧ Taken a b c x := by
  induction h with
  | @here a b c d post t =>
    intro m x e
    rcases List.eq_nil_or_concat post with rfl | ⟨post', y, rfl⟩
    · have e2 : [a, b, c] ++ [d] = m ++ [x] := e
      obtain ⟨_, e4⟩ := List.append_inj' e2 rfl
      have e5 : d = x := (List.cons.inj e4).1
      subst e5
      exact .inr ⟨[], a, b, c, rfl, t⟩
    · have e2 : (a :: b :: c :: d :: post') ++ [y] = m ++ [x] := by rw [← e]; simp
      obtain ⟨e3, e4⟩ := List.append_inj' e2 rfl
      have e5 : y = x := (List.cons.inj e4).1
      subst e5 e3
      exact .inl ⟨a :: d :: post', .here t, by simp⟩
  | @there y p q cy h ih =>
    intro m x e
    cases m with
    | nil =>
      have e2 : p = [] := (List.cons.inj e).2
      subst e2
      cases h
    | cons y' m' =>
      obtain ⟨e1, e2⟩ := List.cons.inj e
      subst e1
      rcases ih e2 with ⟨q', s, e3⟩ | ⟨pre, a, b, c, e3, t⟩
      · exact .inl ⟨y :: q', .there s, by rw [e3]; rfl⟩
      · exact .inr ⟨y :: pre, a, b, c, by rw [e3]; rfl, t⟩
theorem nf_push {m : List Int} {x : Int} (h : NF m) (n : ∀ pre a b c, m ++ [x] = pre ++ [a, b, c, x] → ¬ Taken a b c x) : NF (m ++ [x]) := by
  intro cy q s
  rcases step_last s rfl with ⟨q', s', _⟩ | ⟨pre, a, b, c, e, t⟩
  · exact h _ _ s'
  · exact n pre a b c e t
theorem nf_prefix {m l : List Int} (h : NF (m ++ l)) : NF m := fun cy q s => h _ _ (s.suffix l)
/-- turning points go up and down -/
theorem tq_zz : ∀ (l : List Int) (b a : Int), a ≠ b → ∃ x s, tq b a l = x :: s ∧ (x > b ↔ a > b) ∧ x ≠ b ∧ ZZ (b :: x :: s)
  | [], b, a, h => ⟨a, [], rfl, Iff.rfl, h, fun z => h z.symm⟩
  | r :: l, b, a, h => by
    simp only [tq]
    by_cases e : a = r
    · rw [if_pos e]
      exact tq_zz l b a h
    · rw [if_neg e]
      by_cases bt : Btw a b r
      · rw [if_pos bt]
        obtain ⟨x, s, h1, h2, h3, h4⟩ := tq_zz l b r (by omega)
        exact ⟨x, s, h1, by omega, h3, h4⟩
      · rw [if_neg bt]
        obtain ⟨y, s, h1, h2, h3, h4⟩ := tq_zz l a r (fun z => e z.symm)
        refine ⟨a, y :: s, by rw [h1], Iff.rfl, h, ?_, h4⟩
        have h5 : y > a ↔ r > a := h2
        omega
theorem ts_zz : ∀ (l : List Int) (a : Int), ZZ (ts a l)
  | [], _ => trivial
  | r :: l, a => by
    simp only [ts]
    by_cases e : a = r
    · rw [if_pos e]
      exact ts_zz l a
    · rw [if_neg e]
      obtain ⟨x, s, h1, _, _, h4⟩ := tq_zz l a r (fun z => e z.symm)
      rw [h1]
      exact h4
theorem tp_zz (ns : List Int) : ZZ (tp ns) := by
  cases ns with
  | nil => exact trivial
  | cons a l => exact ts_zz l a
end RM

/-! heaps; the texts of data; a walk over two tuples -/
namespace KA
open PySem PySem.Spec PyProof.Rows L2
theorem same_new {H : Hp} {p : Addr} {o : HO} (h : H p = none) : Same H (upd H p o) := fun b x e => by
  rw [upd_ne (ne_of_none e h)]
  exact e
theorem same_again {H0 H : Hp} {p : Addr} {o : HO} (h : H0 p = none) (s : Same H0 H) : Same H0 (upd H p o) := fun b x e => by
  rw [upd_ne (ne_of_none e h)]
  exact s b x e
theorem SqT_same {K : PySem.W.Frag} {H H' : Hp} {a : Addr} {xs : List V} (e : Same H H') (h : SqT K H a xs) : SqT K H' a xs := by
  rcases h with (h | ⟨o, h⟩) | h
  · exact .inl (.inl (e _ _ h))
  · exact .inl (.inr ⟨o, e _ _ h⟩)
  · exact .inr h
theorem int_at {ns : List Int} {i : Nat} {x : V} (h : (ns.map V.int)[i]? = some x) : ∃ r, ns[i]? = some r ∧ x = .int r := by
  rw [List.getElem?_map] at h
  cases e : ns[i]? with
  | none => rw [e] at h; cases h
  | some r => rw [e] at h; exact ⟨r, rfl, (Option.some.inj h).symm⟩
theorem small3000 {n : Nat} (h : n ≤ 3000) : n < sizeLine := Nat.lt_of_le_of_lt h (by decide)
theorem at_int {ns : List Int} {i : Nat} {r : Int} (h : ns[i]? = some r) : (ns.map V.int)[i]? = some (.int r) := by
  rw [List.getElem?_map, h]
  rfl
end KA
namespace KB
end KB
namespace PH
open PySem PySem.Spec PyProof.Rows L2 KA
/-- a list or a tuple of xs stands at a -/
def Sq (K : PySem.W.Frag) (H : Hp) (a : Addr) (xs : List V) : Prop := SqL K H a xs ∨ SqT K H a xs
theorem Sq.same {K : PySem.W.Frag} {H H' : Hp} {a : Addr} {xs : List V} (h : Sq K H a xs) (e : Same H H') : Sq K H' a xs := h.elim (fun z => .inl (e.seq z)) (fun z => .inr (SqT_same e z))
/-- pairs of ints stand at the refs of xs -/
def PairsAt (H : Hp) : List V → List (Int × Int) → Prop
  | [], [] => True
  | x :: xs, r :: rs => (∃ p, x = .ref p ∧ H p = some (.tup [.int r.1, .int r.2])) ∧ PairsAt H xs rs
  | _, _ => False
theorem PairsAt.same {H H' : Hp} (e : Same H H') : ∀ {xs : List V} {rs : List (Int × Int)}, PairsAt H xs rs → PairsAt H' xs rs
  | [], [], _ => trivial
  | x :: xs, r :: rs, ⟨⟨p, h1, h2⟩, h3⟩ => ⟨⟨p, h1, e _ _ h2⟩, PairsAt.same e h3⟩
  | [], _ :: _, h => h.elim
  | _ :: _, [], h => h.elim
theorem PairsAt.length {H : Hp} : ∀ {xs : List V} {rs : List (Int × Int)}, PairsAt H xs rs → xs.length = rs.length
  | [], [], _ => rfl
  | x :: xs, r :: rs, ⟨_, h3⟩ => by rw [List.length_cons, List.length_cons, PairsAt.length h3]
  | [], _ :: _, h => h.elim
  | _ :: _, [], h => h.elim
theorem PairsAt.append {H : Hp} : ∀ {xs ys : List V} {rs ss : List (Int × Int)}, PairsAt H xs rs → PairsAt H ys ss → PairsAt H (xs ++ ys) (rs ++ ss)
  | [], _, [], _, _, h => h
  | x :: xs, _, r :: rs, _, ⟨h1, h2⟩, h => ⟨h1, PairsAt.append h2 h⟩
  | [], _, _ :: _, _, h, _ => h.elim
  | _ :: _, _, [], _, h, _ => h.elim
theorem PairsAt.take {H : Hp} : ∀ {xs : List V} {rs : List (Int × Int)} (n : Nat), PairsAt H xs rs → PairsAt H (xs.take n) (rs.take n)
  | [], [], n, _ => by simp [PairsAt]
  | x :: xs, r :: rs, 0, _ => trivial
  | x :: xs, r :: rs, n + 1, ⟨h1, h2⟩ => ⟨h1, PairsAt.take n h2⟩
  | [], _ :: _, _, h => h.elim
  | _ :: _, [], _, h => h.elim
theorem PairsAt.get {H : Hp} : ∀ {xs : List V} {rs : List (Int × Int)} {i : Nat} {x : V}, PairsAt H xs rs → xs[i]? = some x → ∃ p a b, x = .ref p ∧ H p = some (.tup [.int a, .int b])
  | x :: xs, r :: rs, 0, y, ⟨⟨p, h1, h2⟩, _⟩, e => ⟨p, r.1, r.2, by rw [← h1]; exact (Option.some.inj e).symm, h2⟩
  | x :: xs, r :: rs, i + 1, y, ⟨_, h⟩, e => PairsAt.get h e
  | [], [], i, y, _, e => by simp at e
  | [], _ :: _, _, _, h, _ => h.elim
  | _ :: _, [], _, _, h, _ => h.elim
/-! ### data -/
def dInts (ns : List Int) : List PyData := ns.map PyData.int
def dPairs (rs : List (Int × Int)) : List PyData := rs.map fun r => .tuple [.int r.1, .int r.2]
theorem dp_ints {K : PySem.W.Frag} {H : Hp} : ∀ ns : List Int, DpAll K H (ns.map V.int) (dInts ns)
  | [] => .nil
  | n :: ns => .cons (.int n) (dp_ints ns)
theorem dp_pairs {K : PySem.W.Frag} {H : Hp} : ∀ {xs : List V} {rs : List (Int × Int)}, PairsAt H xs rs → DpAll K H xs (dPairs rs)
  | [], [], _ => .nil
  | x :: xs, r :: rs, ⟨⟨p, h1, h2⟩, h3⟩ => by
    subst h1
    exact .cons (.tup (SqT.of h2) (.cons (.int _) (.cons (.int _) .nil))) (dp_pairs h3)
  | [], _ :: _, h => h.elim
  | _ :: _, [], h => h.elim
theorem lay_ints : ∀ ns : List Int, PyData.canLayAll0 (dInts ns) = true
  | [] => rfl
  | n :: ns => by
    show (PyData.canLay0 (.int n) && PyData.canLayAll0 (dInts ns)) = true
    rw [lay_ints ns]
    simp only [PyData.canLay0, Bool.and_true]
theorem lay_pairs : ∀ rs : List (Int × Int), PyData.canLayAll0 (dPairs rs) = true
  | [] => rfl
  | r :: rs => by
    show (PyData.canLay0 (.tuple [.int r.1, .int r.2]) && PyData.canLayAll0 (dPairs rs)) = true
    rw [lay_pairs rs]
    simp only [PyData.canLay0, PyData.canLayAll0, Bool.and_true]
theorem depth_pairs : ∀ rs : List (Int × Int), PyData.depthAll (dPairs rs) ≤ 3
  | [] => Nat.zero_le _
  | r :: rs => by
    have h := depth_pairs rs
    show max (PyData.depth (.tuple [.int r.1, .int r.2])) (PyData.depthAll (dPairs rs)) ≤ 3
    simp only [PyData.depth, PyData.depthAll]
    omega
theorem shaped_of {d : PyData} (h1 : d.canLay0 = true) (h2 : d.depth ≤ 64) : SeqAt.shaped d = true := by
  unfold SeqAt.shaped
  rw [h1, decide_eq_true h2]
  rfl
theorem shaped_lst (ns : List Int) : SeqAt.shaped (.list (dInts ns)) = true :=
  shaped_of (by simp only [PyData.canLay0, lay_ints]) (by have := KG.depth_all ns; show PyData.depth (.list (ns.map PyData.int)) ≤ 64; simp only [PyData.depth]; omega)
theorem shaped_tup (ns : List Int) : SeqAt.shaped (.tuple (dInts ns)) = true :=
  shaped_of (by simp only [PyData.canLay0, lay_ints]) (by have := KG.depth_all ns; show PyData.depth (.tuple (ns.map PyData.int)) ≤ 64; simp only [PyData.depth]; omega)
theorem shaped_prs (rs : List (Int × Int)) : SeqAt.shaped (.list (dPairs rs)) = true :=
  shaped_of (by simp only [PyData.canLay0, lay_pairs]) (by have := depth_pairs rs; simp only [PyData.depth]; omega)
theorem eqv_same {d : PyData} (h : SeqAt.shaped d = true) : PyData.eqv d d = true := by
  refine SeqAt.eqv_refl d ?_
  unfold SeqAt.shaped at h
  rw [Bool.and_eq_true] at h
  exact h.1
/-- what repr asks of data -/
structure Nice (d : PyData) : Prop where
  show' : d.showable = true
  dict : d.hasDict = false
  depth : d.depth ≤ 10
  fits : d.shown.length ≤ sizeLine
theorem nice_lst {ns : List Int} (h : ∀ n ∈ ns, n.natAbs < 2 ^ 39) (hl : ns.length ≤ 2000) : Nice (.list (dInts ns)) :=
  ⟨by simp only [PyData.showable]; exact KG.show_all ns fun m hm => Nat.lt_trans (h m hm) (by decide), by simp only [PyData.hasDict]; exact KG.nodict_all ns,
    by have := KG.depth_all ns; show PyData.depth (.list (ns.map PyData.int)) ≤ 10; simp only [PyData.depth]; omega, KG.repr_fits h hl⟩
theorem nice_tup {ns : List Int} (h : ∀ n ∈ ns, n.natAbs < 2 ^ 39) (hl : ns.length ≤ 2000) : Nice (.tuple (dInts ns)) :=
  ⟨by simp only [PyData.showable]; exact KG.show_all ns fun m hm => Nat.lt_trans (h m hm) (by decide), by simp only [PyData.hasDict]; exact KG.nodict_all ns,
    by have := KG.depth_all ns; show PyData.depth (.tuple (ns.map PyData.int)) ≤ 10; simp only [PyData.depth]; omega, by
      refine PyData.shown_fits (B := 13) (by decide) (by decide) ?_ ?_
      · simp only [PyData.leavesShort]
        exact KG.leaves_all ns fun n hn => Nat.lt_trans (h n hn) (by decide)
      · have := KG.weight_all ns h
        show PyData.weight (.tuple (ns.map PyData.int)) ≤ _
        simp only [PyData.weight]
        omega⟩
theorem leaf_int {a : Int} (h : a.natAbs < 2 ^ 39) : PyData.leavesShort 13 (.int a) = true := by
  have := KG.leaves_all [a] fun n hn => by rw [List.mem_singleton.mp hn]; exact Nat.lt_trans h (by decide)
  simpa only [List.map_cons, List.map_nil, PyData.leavesShortAll, Bool.and_true] using this
theorem show_int {a : Int} (h : a.natAbs < 2 ^ 39) : PyData.showable (.int a) = true := by
  have := KG.show_all [a] fun n hn => by rw [List.mem_singleton.mp hn]; exact Nat.lt_trans h (by decide)
  simpa only [List.map_cons, List.map_nil, PyData.showableAll, Bool.and_true] using this
theorem weight_int {a : Int} (h : a.natAbs < 2 ^ 39) : PyData.weight (.int a) + 1 ≤ 60 := by
  have := KG.weight_all [a] fun n hn => by rw [List.mem_singleton.mp hn]; exact h
  simp only [List.map_cons, List.map_nil, PyData.weightAll, List.length_singleton] at this
  omega
theorem pairs_show : ∀ rs : List (Int × Int), (∀ r ∈ rs, r.1.natAbs < 2 ^ 39 ∧ r.2.natAbs < 2 ^ 39) → PyData.showableAll (dPairs rs) = true
  | [], _ => rfl
  | r :: rs, h => by
    have h1 := h r List.mem_cons_self
    show (PyData.showable (.tuple [.int r.1, .int r.2]) && PyData.showableAll (dPairs rs)) = true
    rw [pairs_show rs fun x hx => h x (List.mem_cons_of_mem _ hx)]
    have e1 := show_int h1.1
    have e2 := show_int h1.2
    simp only [PyData.showable, PyData.showableAll] at e1 e2 ⊢
    rw [e1, e2]
    rfl
theorem pairs_dict : ∀ rs : List (Int × Int), PyData.hasDictAll (dPairs rs) = false
  | [] => rfl
  | r :: rs => by
    show (PyData.hasDict (.tuple [.int r.1, .int r.2]) || PyData.hasDictAll (dPairs rs)) = false
    rw [pairs_dict rs]
    simp only [PyData.hasDict, PyData.hasDictAll, Bool.or_self]
theorem pairs_leaves : ∀ rs : List (Int × Int), (∀ r ∈ rs, r.1.natAbs < 2 ^ 39 ∧ r.2.natAbs < 2 ^ 39) → PyData.leavesShortAll 13 (dPairs rs) = true
  | [], _ => rfl
  | r :: rs, h => by
    have h1 := h r List.mem_cons_self
    show (PyData.leavesShort 13 (.tuple [.int r.1, .int r.2]) && PyData.leavesShortAll 13 (dPairs rs)) = true
    rw [pairs_leaves rs fun x hx => h x (List.mem_cons_of_mem _ hx)]
    have e : PyData.leavesShort 13 (.tuple [.int r.1, .int r.2]) = PyData.leavesShortAll 13 [.int r.1, .int r.2] := by simp only [PyData.leavesShort]
    have e' : PyData.leavesShortAll 13 [.int r.1, .int r.2] = (PyData.leavesShort 13 (.int r.1) && (PyData.leavesShort 13 (.int r.2) && true)) := by simp only [PyData.leavesShortAll]
    rw [e, e', leaf_int h1.1, leaf_int h1.2]
    rfl
theorem pairs_weight : ∀ rs : List (Int × Int), (∀ r ∈ rs, r.1.natAbs < 2 ^ 39 ∧ r.2.natAbs < 2 ^ 39) → PyData.weightAll (dPairs rs) ≤ 130 * rs.length
  | [], _ => Nat.le_refl _
  | r :: rs, h => by
    have h1 := h r List.mem_cons_self
    have h2 := pairs_weight rs fun x hx => h x (List.mem_cons_of_mem _ hx)
    have w1 := weight_int h1.1
    have w2 := weight_int h1.2
    have e : PyData.weightAll (dPairs (r :: rs)) = PyData.weight (.tuple [.int r.1, .int r.2]) + 1 + PyData.weightAll (dPairs rs) := by
      show PyData.weightAll (_ :: _) = _
      simp only [PyData.weightAll]
      rfl
    have e2 : PyData.weight (.tuple [.int r.1, .int r.2]) = PyData.weight (.int r.1) + 1 + (PyData.weight (.int r.2) + 1 + 0) := by simp only [PyData.weight, PyData.weightAll]
    rw [e, e2, List.length_cons]
    omega
theorem nice_prs {rs : List (Int × Int)} (h : ∀ r ∈ rs, r.1.natAbs < 2 ^ 39 ∧ r.2.natAbs < 2 ^ 39) (hl : rs.length ≤ 2000) : Nice (.list (dPairs rs)) :=
  ⟨by simp only [PyData.showable]; exact pairs_show rs h, by simp only [PyData.hasDict]; exact pairs_dict rs, by have := depth_pairs rs; simp only [PyData.depth]; omega, by
    refine PyData.shown_fits (B := 13) (by decide) (by decide) ?_ ?_
    · simp only [PyData.leavesShort]
      exact pairs_leaves rs h
    · have := pairs_weight rs h
      simp only [PyData.weight]
      omega⟩
section
variable {X : Cx}
/-- repr of data at an address, while no repr is under way -/
def rReprD (K : PySem.W.Frag) : List V → Hp → VK → Prop := fun vs H Q => ∃ (a : Addr) (d : PyData), vs = [V.ref a] ∧ Dp K H (.ref a) d ∧ Nice d ∧ Q (.str d.shown) H
theorem cr_reprD (hg : X.A.guards = some []) (hu : X.A.units + 100 < cLine) : CallR X (.builtin "repr") (rReprD X.K) := by
  intro pins s σ H vs us Q I r h
  obtain ⟨a, d, rfl, hd, nc, q⟩ := h
  rw [Vals.ref1 r]
  obtain ⟨as, rd⟩ := Dp.reads I d (.ref a) (.ref a) hd rfl
  refine repr_of_reads' rd nc.show' (PyData.noDict_hsm nc.dict) hg (by have := nc.depth; omega) (fun _ _ e => e) (fun g u tk k => ?_) nc.fits
  exact ⟨.str d.shown, H, I.kept k, ⟨u, rfl⟩, q⟩
theorem cr_reprB : CallR X (.builtin "repr") (fun vs H Q => ∃ b : Bool, vs = [V.bl b] ∧ Q (.str (if b = true then "True" else "False")) H) := by
  intro pins s σ H vs us Q I r h
  obtain ⟨b, rfl, q⟩ := h
  obtain ⟨u, rfl, ru⟩ := vals1 r
  cases ru
  exact PySem.P.repr_of_bool ⟨.str _, H, I.tok _, ⟨_, rfl⟩, q⟩
end
section
variable {K : PySem.W.Frag} {a b : Addr} {xs ys : List V}
theorem walk_tups {n : Nat} (hn : n = min xs.length ys.length) : Walk (RZ.ItzT K a b) n (fun H => SqT K H a xs ∧ SqT K H b ys) (YPair (fun i => xs[i]?) (fun i => ys[i]?)) := by
  refine ⟨fun i H hi q => ⟨xs, ys, xs[i]'(by omega), ys[i]'(by omega), q.1, q.2, List.getElem?_eq_getElem (by omega), List.getElem?_eq_getElem (by omega)⟩, fun H q => ⟨xs, ys, q.1, q.2, by omega⟩, fun i H v H' _ q y => ?_⟩
  obtain ⟨T, x, z, h1, h2, h3, h4, h5⟩ := y
  exact ⟨T, x, z, h1, h2, h3, h4 xs q.1, h5 ys q.2⟩
end
/-- two promises of one def -/
theorem both {P : Program} {w : World} {K : PySem.W.Frag} {mg : Str → Option Value} {base : Heap} {CX : CXT} {k : Nat} {f : Addr} {fd : FuncData} {ps : List Str} {sp sp' : Sp}
    (F : FnOk P w K mg base CX k f fd ps sp) (G : FnOk P w K mg base CX k f fd ps sp') : FnOk P w K mg base CX k f fd ps (fun vs H Q E => sp vs H Q E ∨ sp' vs H Q E) :=
  ⟨fun vs H Q E h => h.elim (F.len vs H Q E) (G.len vs H Q E), fun A outer s H args us vs Q E hr e0 hb r h => h.elim (F.run A outer s H args us vs Q E hr e0 hb r) (G.run A outer s H args us vs Q E hr e0 hb r)⟩
end PH

namespace KA
open PySem PySem.Spec PyProof.Rows L2
def topS (i : Nat) : Stmt := PySem.Challenge.pw_wearswings_k30_what_is_a_count.main.body.getD i (.Pass ⟨0, 0, 0, 0⟩)
end KA
namespace KD
open PySem PySem.Spec PyProof.Rows L2 KA
abbrev sFeed : Stmt := topS 20
abbrev sTake : Stmt := topS 21
abbrev sPick : Stmt := topS 22
theorem scFeed : FnScope ["script", "index", "cell", "great"] ["script", "index"] (defScope sFeed) := ⟨rfl, rfl, rfl, by decide +kernel, rfl, by decide +kernel, by decide +kernel⟩
theorem scTake : FnScope ["feed", "size", "digit"] ["feed", "size"] (defScope sTake) := ⟨rfl, rfl, rfl, by decide +kernel, rfl, by decide +kernel, by decide +kernel⟩
theorem scPick : FnScope ["feed", "options"] ["feed", "options"] (defScope sPick) := ⟨rfl, rfl, rfl, by decide +kernel, rfl, by decide +kernel, by decide +kernel⟩
/-- a feed stands at p -/
def FeedAt (H : Hp) (p : Addr) : Prop := ∃ d st : Int, 0 ≤ d ∧ 0 ≤ st ∧ st < 2305843009213693951 ∧ H p = some (.lst [.int d, .int st])
/-- all that was tracked is as it was, but what stands at f -/
def Ch (f : Addr) (H H' : Hp) : Prop := ∀ b o, b ≠ f → H b = some o → H' b = some o
theorem Ch.refl (f : Addr) (H : Hp) : Ch f H H := fun _ _ _ e => e
theorem Ch.trans {f : Addr} {H H1 H2 : Hp} (a : Ch f H H1) (b : Ch f H1 H2) : Ch f H H2 := fun c o n e => b c o n (a c o n e)
theorem Ch.of_same {f : Addr} {H H' : Hp} (s : Same H H') : Ch f H H' := fun c o _ e => s c o e
theorem Ch.put {f : Addr} {H : Hp} {o : HO} : Ch f H (upd H f o) := fun b x n e => by rw [upd_ne n]; exact e
theorem Ch.new {f p : Addr} {H : Hp} {o : HO} (h : H p = none) : Ch f H (upd H p o) := .of_same (same_new h)
theorem Ch.again {f p : Addr} {H0 H : Hp} {o : HO} (h : H0 p = none) (c : Ch f H0 H) : Ch f H0 (upd H p o) := fun b x n e => by
  rw [upd_ne (ne_of_none e h)]
  exact c b x n e
theorem Ch.free {f p : Addr} {H H' : Hp} (c : Ch f H H') (n : p ≠ f) (h : H' p = none) : H p = none := by
  cases e : H p with
  | none => rfl
  | some o =>
    rw [c p o n e] at h
    cases h
theorem Ch.seq {K : PySem.W.Frag} {f : Addr} {H H' : Hp} {a : Addr} {xs : List V} (c : Ch f H H') (n : a ≠ f) (h : SqL K H a xs) : SqL K H' a xs := by
  rcases h with (h | ⟨o, h⟩) | h
  · exact .inl (.inl (c _ _ n h))
  · exact .inl (.inr ⟨o, c _ _ n h⟩)
  · exact .inr h
/-- what stood ahead of the feed is as it was -/
theorem Ch.old {f : Addr} {H0 H H' : Hp} (c : Ch f H H') (hf : H0 f = none) (s : Same H0 H) : Same H0 H' := fun b o e => c b o (ne_of_none e hf) (s b o e)
theorem FeedAt.ne {H : Hp} {f p : Addr} (h : FeedAt H f) (n : H p = none) : p ≠ f := by
  obtain ⟨d, st, _, _, _, e⟩ := h
  exact fun z => by rw [z, e] at n; cases n
theorem FeedAt.upd {H : Hp} {f p : Addr} {o : HO} (h : FeedAt H f) (n : p ≠ f) : FeedAt (upd H p o) f := by
  obtain ⟨d, st, h1, h2, h3, e⟩ := h
  exact ⟨d, st, h1, h2, h3, by rw [upd_ne n.symm]; exact e⟩
theorem FeedAt.same {H H' : Hp} {f : Addr} (h : FeedAt H f) (s : Same H H') : FeedAt H' f := by
  obtain ⟨d, st, h1, h2, h3, e⟩ := h
  exact ⟨d, st, h1, h2, h3, s _ _ e⟩
section
variable {P : Program} {w : World} {K : PySem.W.Frag} {mg : Str → Option Value} {base : Heap}
def spFeed (K : PySem.W.Frag) : Sp := fun vs H Q _ => ∃ (a : Addr) (ns : List Int) (k : Int), vs = [.ref a, .int k] ∧ SqL K H a (ns.map V.int) ∧ 0 ≤ k ∧ k ≤ 100 ∧
  ∀ H' p, Same H H' → H p = none → FeedAt H' p → Q (.ref p) H'
theorem ok_feed {f : Addr} {fd : FuncData} {k : Nat} (F : Fun K "_law_feed" "_law_feed" sFeed f fd) (ml : mg "len" = none) (mm : mg "max" = none) (ma : mg "abs" = none) : FnOk P w K mg base CX0 (k + 1) f fd ["script", "index"] (spFeed K) := by
  refine F.ok scFeed (fun vs H Q E h => ?_) (fun cdv A outer s H vs Q E hr h => ?_)
  · obtain ⟨a, ns, z, rfl, _⟩ := h
    rfl
  · obtain ⟨a, ns, z, rfl, hS, h0, h1, q⟩ := h
    refine ⟨_, pss_cons (ps_set (i := 2) scFeed.nd rfl (.inl rfl) (pe_ifExp (pt_cmpR op_lt (pv 1) (pe_callB call_len_seq (by rfl) ml PySem.boot_len (pa_cons (pv 0) pa_nil)) (nomark _)) (pe_ix ix_list (pv 0) (pv 1) (fun _ _ => rfl)) (pe_op op_add (pe_op op_mul pe_int (pv 1)) pe_int)))
      (pss_cons (ps_set (i := 3) scFeed.nd rfl (.inl rfl) (pe_op op_sub (pe_callB call_abs (by rfl) ma (by decide +kernel) (pa_cons (pv 2) pa_nil)) (pe_op op_pow pe_int pe_int)))
      (pss_one (ps_ret (pe_lst (pa_cons (pe_callB (call_max2 rfl) (by rfl) mm (by decide +kernel) (pa_cons pe_int (pa_cons (pv 3) pa_nil))) (pa_cons (pe_op op_mod (pe_op op_add (pe_op op_mul (pv 2) pe_int) (pe_op op_mul pe_int (pe_op op_add (pv 1) pe_int))) pe_int) pa_nil)))))), ?_⟩
    refine ⟨.int z, rfl, .ref a, rfl, a, ns.map V.int, rfl, .inl hS, z, _, rfl, rfl, _, rfl, ite2 (fun e => ?_) (fun e => ?_)⟩
    · have hz : z < ((ns.map V.int).length : Nat) := of_decide_eq_true e
      rw [List.length_map] at hz
      obtain ⟨j, rfl⟩ : ∃ j : Nat, z = (j : Int) := ⟨z.toNat, by omega⟩
      have hj : j < ns.length := by omega
      have gj : (ns.map V.int)[j]? = some (.int ns[j]) := by rw [List.getElem?_map, List.getElem?_eq_getElem hj]; rfl
      refine ⟨.ref a, rfl, .int j, rfl, a, _, _, _, rfl, rfl, hS, atI_nat gj, ?_⟩
      refine ⟨.int _, rfl, _, rfl, 10, 18, rfl, rfl, ⟨by decide, by decide, by decide⟩, _, _, rfl, rfl, .int _, rfl, 0, _, rfl, ?_⟩
      refine ⟨.int _, rfl, _, _, rfl, rfl, .inr ⟨by decide, by decide⟩, .int _, rfl, _, 1, rfl, rfl, 3935559000370003845, _, rfl, rfl, .inl ⟨by decide, by decide⟩, _, _, rfl, rfl, _, _, rfl, rfl, by show (0 : Int) < 2305843009213693951; decide, ?_⟩
      refine ⟨by show 2 ≤ sizeLine; decide, fun p np => q _ p (same_new np) np ⟨_, _, ?_, Int.emod_nonneg _ (by decide), Int.emod_lt_of_pos _ (by decide), upd_same⟩⟩
      split <;> omega
    · refine ⟨.int z, rfl, 59, z, rfl, rfl, .inl ⟨by decide, by decide⟩, _, _, rfl, rfl, ?_⟩
      refine ⟨.int _, rfl, _, rfl, 10, 18, rfl, rfl, ⟨by decide, by decide, by decide⟩, _, _, rfl, rfl, .int _, rfl, 0, _, rfl, ?_⟩
      refine ⟨.int _, rfl, _, _, rfl, rfl, .inr ⟨by decide, by decide⟩, .int _, rfl, _, 1, rfl, rfl, 3935559000370003845, _, rfl, rfl, .inl ⟨by decide, by decide⟩, _, _, rfl, rfl, _, _, rfl, rfl, by show (0 : Int) < 2305843009213693951; decide, ?_⟩
      refine ⟨by show 2 ≤ sizeLine; decide, fun p np => q _ p (same_new np) np ⟨_, _, ?_, Int.emod_nonneg _ (by decide), Int.emod_lt_of_pos _ (by decide), upd_same⟩⟩
      split <;> omega
def spTake : Sp := fun vs H Q _ => ∃ (f : Addr) (m : Int), vs = [.ref f, .int m] ∧ 0 < m ∧ m < 2 ^ 64 ∧ FeedAt H f ∧ ∀ H' r, Ch f H H' → FeedAt H' f → 0 ≤ r → r < m → Q (.int r) H'
theorem ok_take {f : Addr} {fd : FuncData} {k : Nat} (F : Fun K "_law_take" "_law_take" sTake f fd) : FnOk P w K mg base CX0 (k + 1) f fd ["feed", "size"] spTake := by
  refine F.ok scTake (fun vs H Q E h => ?_) (fun cdv A outer s H vs Q E hr h => ?_)
  · obtain ⟨a, m, rfl, _⟩ := h
    rfl
  · obtain ⟨f, m, rfl, m0, m1, ⟨d, st, d0, t0, t1, hf⟩, q⟩ := h
    refine ⟨_, pss_cons (ps_if (pt_cmpR op_gt (pe_ix ix_list (pv 0) pe_int (fun _ _ => rfl)) pe_int (nomark _))
        (pss_cons (ps_set (i := 2) scTake.nd rfl (.inl rfl) (pe_op op_mod (pe_ix ix_list (pv 0) pe_int (fun _ _ => rfl)) (pv 1)))
          (pss_cons (ps_asg (pe_op op_fdivW (pe_ix ix_list (pv 0) pe_int (fun _ _ => rfl)) (pv 1)) (pg_sub (pv 0) pe_int set_list)) (pss_one (ps_ret (pv 2))))) pss_nil)
      (pss_cons (ps_asg (pe_op op_mod (pe_op op_add (pe_op op_mul (pe_ix ix_list (pv 0) pe_int (fun _ _ => rfl)) pe_int) pe_int) pe_int) (pg_sub (pv 0) pe_int set_list))
      (pss_one (ps_ret (pe_op op_mod (pe_op op_fdiv (pe_ix ix_list (pv 0) pe_int (fun _ _ => rfl)) pe_int) (pv 1))))), ?_⟩
    have a0 : atI [V.int d, V.int st] 0 = some (.int d) := rfl
    have a1 : atI [V.int d, V.int st] 1 = some (.int st) := rfl
    refine ⟨.ref f, rfl, f, _, 0, .int d, rfl, rfl, SqL.of hf, a0, d, 0, rfl, rfl, _, rfl, ite2 (fun e => ?_) (fun e => ?_)⟩
    · have hd : d > 0 := of_decide_eq_true e
      refine ⟨.ref f, rfl, f, _, 0, .int d, rfl, rfl, SqL.of hf, a0, .int m, rfl, d, m, rfl, rfl, m0, ?_⟩
      refine ⟨.ref f, rfl, f, _, 0, .int d, rfl, rfl, SqL.of hf, a0, .int m, rfl, d, m, rfl, rfl, wide_div (b := 64) m0 (by omega) (by decide) (by decide), ?_⟩
      refine ⟨.ref f, rfl, f, _, 0, 0, rfl, rfl, hf, rfl, .int (d % m), rfl, ?_⟩
      refine q _ _ Ch.put ⟨d / m, st, Int.ediv_nonneg d0 (by omega), t0, t1, upd_same⟩ (Int.emod_nonneg _ (by omega)) (Int.emod_lt_of_pos _ m0)
    · refine ⟨.ref f, rfl, f, _, 1, .int st, rfl, rfl, SqL.of hf, a1, st, 742938285, rfl, rfl, .inr ⟨by decide, by decide⟩, _, _, rfl, rfl, _, _, rfl, rfl, by show (0 : Int) < 2305843009213693951; decide, ?_⟩
      refine ⟨.ref f, rfl, f, _, 1, 1, rfl, rfl, hf, rfl, ?_⟩
      refine ⟨.ref f, rfl, f, _, 1, _, rfl, rfl, SqL.of upd_same, rfl, _, 16777216, rfl, rfl, ⟨by decide, by decide⟩, .int m, rfl, _, m, rfl, rfl, m0, ?_⟩
      exact q _ _ Ch.put ⟨d, _, d0, Int.emod_nonneg _ (by decide), Int.emod_lt_of_pos _ (by decide), upd_same⟩ (Int.emod_nonneg _ (by omega)) (Int.emod_lt_of_pos _ m0)
def spPick (K : PySem.W.Frag) : Sp := fun vs H Q _ => ∃ (f c : Addr) (xs : List V), vs = [.ref f, .ref c] ∧ c ≠ f ∧ SqL K H c xs ∧ 0 < xs.length ∧ xs.length ≤ 1000 ∧ FeedAt H f ∧
  ∀ H' (j : Nat) v, xs[j]? = some v → Ch f H H' → FeedAt H' f → Q v H'
theorem ok_pick {f fT : Addr} {fd fdT : FuncData} {k : Nat} (F : Fun K "_law_pick" "_law_pick" sPick f fd) (FT : Fun K "_law_take" "_law_take" sTake fT fdT) (gT : mg "_law_take" = some (.ref fT)) (bT : Binds K fdT ["feed", "size"] []) (ml : mg "len" = none) :
    FnOk P w K mg base CX0 (k + 2) f fd ["feed", "options"] (spPick K) := by
  have GT : FnOk P w K mg base CX0 (k + 1) fT fdT ["feed", "size"] spTake := ok_take FT
  refine F.ok scPick (fun vs H Q E h => ?_) (fun cdv A outer s H vs Q E hr h => ?_)
  · obtain ⟨a, m, xs, rfl, _⟩ := h
    rfl
  · obtain ⟨f, c, xs, rfl, ncf, hS, l0, l1, hf, q⟩ := h
    refine ⟨_, pss_one (ps_ret (pe_ix ix_list (pv 1) (pe_call GT hr (by rfl) gT FT.kp bT .nil pass0 (pa_cons (pv 0) (pa_cons (pe_callB call_len_seq (by rfl) ml PySem.boot_len (pa_cons (pv 1) pa_nil)) pa_nil))) (fun _ _ => rfl))), ?_⟩
    refine ⟨.ref c, rfl, .ref f, rfl, .ref c, rfl, c, xs, rfl, .inl hS, f, _, rfl, by omega, by omega, hf, fun H' r ch fe r0 r1 => ?_⟩
    obtain ⟨j, rfl⟩ : ∃ j : Nat, r = (j : Int) := ⟨r.toNat, by omega⟩
    have hj : j < xs.length := by omega
    exact ⟨c, xs, _, xs[j], rfl, rfl, ch.seq ncf hS, atI_nat (List.getElem?_eq_getElem hj), q H' j _ (List.getElem?_eq_getElem hj) ch fe⟩
end
end KD

/-! the program's turning points and swings -/
namespace PA
open PySem PySem.Spec PyProof.Rows L2 KA PH PM
abbrev sCont : Stmt := topS 6
abbrev sRng : Stmt := topS 7
abbrev sTP : Stmt := topS 999
abbrev sBtw : Stmt := topS 9
abbrev sLO : Stmt := topS 8
abbrev sSw : Stmt := topS 999
theorem scCont : FnScope ["outer", "inner"] ["outer", "inner"] (defScope sCont) := ⟨rfl, rfl, rfl, by decide +kernel, rfl, by decide +kernel, by decide +kernel⟩
theorem scRng : FnScope ["one", "other"] ["one", "other"] (defScope sRng) := ⟨rfl, rfl, rfl, by decide +kernel, rfl, by decide +kernel, by decide +kernel⟩
theorem scLO : FnScope ["points", "reading", "last"] ["points", "reading"] (defScope sLO) := ⟨rfl, rfl, rfl, by decide +kernel, rfl, by decide +kernel, by decide +kernel⟩
theorem scBtw : FnScope ["reading", "before", "after"] ["reading", "before", "after"] (defScope sBtw) := ⟨rfl, rfl, rfl, by decide +kernel, rfl, by decide +kernel, by decide +kernel⟩
section
variable {P : Program} {w : World} {K : PySem.W.Frag} {mg : Str → Option Value} {base : Heap}
def spCont (K : PySem.W.Frag) : Sp := fun vs H Q _ => ∃ (p q : Addr) (a b c d : Int), vs = [.ref p, .ref q] ∧ SqT K H p [.int a, .int b] ∧ SqT K H q [.int c, .int d] ∧ Q (.bl (decide (a ≤ c) && decide (d ≤ b))) H
theorem ok_Cont {f : Addr} {fd : FuncData} {k : Nat} (F : Fun K "contains" "contains" sCont f fd) : FnOk P w K mg base CX0 (k + 1) f fd ["outer", "inner"] (spCont K) := by
  refine F.ok scCont (fun vs H Q E h => ?_) (fun cdv A outer s H vs Q E hr h => ?_)
  · obtain ⟨p, q, a, b, c, d, rfl, _⟩ := h
    rfl
  · obtain ⟨p, q, a, b, c, d, rfl, h1, h2, hq⟩ := h
    refine ⟨_, pss_one (ps_ret (pe_and (pe_cmpR op_le (pe_ix ix_tup (pv 0) pe_int (fun _ _ => rfl)) (pe_ix ix_tup (pv 1) pe_int (fun _ _ => rfl)) (nomark _)) (pe_one (pe_cmpR op_le (pe_ix ix_tup (pv 1) pe_int (fun _ _ => rfl)) (pe_ix ix_tup (pv 0) pe_int (fun _ _ => rfl)) (nomark _))))), ?_⟩
    refine ⟨.ref p, rfl, p, _, 0, .int a, rfl, rfl, h1, rfl, .ref q, rfl, q, _, 0, .int c, rfl, rfl, h2, rfl, a, c, rfl, rfl, _, rfl, ?_⟩
    by_cases e : a ≤ c
    · rw [decide_eq_true e] at hq ⊢
      exact iteT ⟨.ref q, rfl, q, _, 1, .int d, rfl, rfl, h2, rfl, .ref p, rfl, p, _, 1, .int b, rfl, rfl, h1, rfl, d, b, rfl, rfl, hq⟩
    · rw [decide_eq_false e] at hq ⊢
      exact iteF hq
def spRng : Sp := fun vs H Q _ => ∃ (a b : Int), vs = [.int a, .int b] ∧ ∀ p, H p = none → Q (.ref p) (upd H p (.tup [.int (rg a b).1, .int (rg a b).2]))
theorem ok_Rng {f : Addr} {fd : FuncData} {k : Nat} (F : Fun K "range_of" "range_of" sRng f fd) (mn : mg "min" = none) (mx : mg "max" = none) : FnOk P w K mg base CX0 (k + 1) f fd ["one", "other"] spRng := by
  refine F.ok scRng (fun vs H Q E h => ?_) (fun cdv A outer s H vs Q E hr h => ?_)
  · obtain ⟨a, b, rfl, _⟩ := h
    rfl
  · obtain ⟨a, b, rfl, hq⟩ := h
    refine ⟨_, pss_one (ps_ret (pe_tup (pa_cons (pe_callB (call_min2 rfl) (by rfl) mn (by decide +kernel) (pa_cons (pv 0) (pa_cons (pv 1) pa_nil))) (pa_cons (pe_callB (call_max2 rfl) (by rfl) mx (by decide +kernel) (pa_cons (pv 0) (pa_cons (pv 1) pa_nil))) pa_nil)))), ?_⟩
    exact ⟨.int a, rfl, .int b, rfl, a, b, rfl, .int a, rfl, .int b, rfl, a, b, rfl, by show 2 ≤ sizeLine; decide, fun p np => hq p np⟩
def spBtw : Sp := fun vs H Q _ => ∃ (r b a : Int), vs = [.int r, .int b, .int a] ∧ Q (.bl (decide (Btw r b a))) H
theorem ok_btw {f : Addr} {fd : FuncData} {k : Nat} (F : Fun K "_lies_between" "_lies_between" sBtw f fd) : FnOk P w K mg base CX0 (k + 1) f fd ["reading", "before", "after"] spBtw := by
  refine F.ok scBtw (fun vs H Q E h => ?_) (fun cdv A outer s H vs Q E hr h => ?_)
  · obtain ⟨r, b, a, rfl, _⟩ := h
    rfl
  · obtain ⟨r, b, a, rfl, hq⟩ := h
    refine ⟨_, pss_one (ps_ret (pe_or (pe_chain op_lt op_lt (pv 1) (pv 0) (pv 2)) (pe_one (pe_chain op_lt op_lt (pv 2) (pv 0) (pv 1))))), ?_⟩
    refine ⟨.int b, rfl, .int r, rfl, b, r, rfl, rfl, _, rfl, ?_⟩
    have second : ¬ (b < r ∧ r < a) → tOrV (fun _ H Q => Q (.bl false) H) (tChain (fun x y H Q => ∃ i j, x = .int i ∧ y = .int j ∧ Q (.bl (decide (i < j))) H) (fun x y H Q => ∃ i j, x = .int i ∧ y = .int j ∧ Q (.bl (decide (i < j))) H) (tVar 2) (tVar 0) (tVar 1)) [some (.int r), some (.int b), some (.int a)] H Q := by
      intro hn
      refine ⟨false, rfl, iteF ⟨.int a, rfl, .int r, rfl, a, r, rfl, rfl, _, rfl, ?_⟩⟩
      by_cases e : a < r
      · rw [decide_eq_true e]
        refine iteT ⟨.int b, rfl, r, b, rfl, rfl, ?_⟩
        have e2 : decide (Btw r b a) = decide (r < b) := by rw [decide_eq_decide]; omega
        rw [e2] at hq
        exact hq
      · rw [decide_eq_false e]
        have e2 : decide (Btw r b a) = false := decide_eq_false (by omega)
        rw [e2] at hq
        exact iteF hq
    by_cases e : b < r
    · rw [decide_eq_true e]
      refine iteT ⟨.int a, rfl, r, a, rfl, rfl, _, rfl, ?_⟩
      by_cases e2 : r < a
      · rw [decide_eq_true e2]
        have e3 : decide (Btw r b a) = true := decide_eq_true (.inl ⟨e, e2⟩)
        rw [e3] at hq
        exact iteT hq
      · rw [decide_eq_false e2]
        obtain ⟨_, h1, h2⟩ := second (fun z => e2 z.2)
        cases h1
        exact h2
    · rw [decide_eq_false e]
      obtain ⟨_, h1, h2⟩ := second (fun z => e z.1)
      cases h1
      exact iteF ⟨false, rfl, h2⟩
end
end PA

/-! places, sorted pairs, the stack's turns -/
namespace RN
open PM RM
def takenAt (ps : List Int) (i : Nat) : Bool := match ps.drop i with
  | a :: b :: c :: d :: _ => decide (Taken a b c d)
  | _ => false
theorem taken_here {ps : List Int} {i : Nat} (h : takenAt ps i = true) : ∃ pre a b c d post, ps = pre ++ a :: b :: c :: d :: post ∧ pre.length = i ∧ Taken a b c d := by
  unfold takenAt at h
  split at h
  · rename_i a b c d post e
    refine ⟨ps.take i, a, b, c, d, post, by rw [← e, List.take_append_drop], ?_, of_decide_eq_true h⟩
    have : (ps.drop i).length = post.length + 4 := by rw [e]; simp
    rw [List.length_drop] at this
    rw [List.length_take]
    omega
  · cases h
theorem taken_get {ps : List Int} {i : Nat} {a b c d : Int} (h0 : ps[i]? = some a) (h1 : ps[i + 1]? = some b) (h2 : ps[i + 2]? = some c) (h3 : ps[i + 3]? = some d) : takenAt ps i = decide (Taken a b c d) := by
  have e : ∀ {j : Nat} {r : Int}, ps[j]? = some r → ps.drop j = r :: ps.drop (j + 1) := fun {j r} h => by
    obtain ⟨k1, k2⟩ := List.getElem?_eq_some_iff.mp h
    rw [List.drop_eq_getElem_cons k1, k2]
  unfold takenAt
  rw [e h0, e h1, e h2, e h3]
theorem taken_lt {ps : List Int} {i : Nat} (h : takenAt ps i = true) : i < ps.length - 3 := by
  obtain ⟨pre, a, b, c, d, post, e, hl, _⟩ := taken_here h
  rw [e]
  simp only [List.length_append, List.length_cons]
  omega
theorem step_at {ps q : List Int} {cy : Int × Int} (h : Step ps cy q) : ∃ i, takenAt ps i = true := by
  induction h with
  | here t => exact ⟨0, decide_eq_true t⟩
  | there _ ih =>
    obtain ⟨i, e⟩ := ih
    exact ⟨i + 1, e⟩
def plc (ps : List Int) : List Int := ((List.range (ps.length - 3)).filter (takenAt ps)).map fun (i : Nat) => (i : Int) + 1
theorem plc_mem {ps : List Int} {x : Int} (h : x ∈ plc ps) : ∃ i : Nat, x = (i : Int) + 1 ∧ takenAt ps i = true := by
  obtain ⟨i, hi, e⟩ := List.mem_map.mp h
  exact ⟨i, e.symm, (List.mem_filter.mp hi).2⟩
theorem nf_of_plc {ps : List Int} (h : plc ps = []) : NF ps := by
  intro c q s
  obtain ⟨i, e⟩ := step_at s
  have : (i : Int) + 1 ∈ plc ps := List.mem_map.mpr ⟨i, List.mem_filter.mpr ⟨List.mem_range.mpr (taken_lt e), e⟩, rfl⟩
  rw [h] at this
  cases this
theorem plc_of_nf {ps : List Int} (h : NF ps) : plc ps = [] := by
  cases e : plc ps with
  | nil => rfl
  | cons x l =>
    have hx : x ∈ plc ps := by rw [e]; exact List.mem_cons_self
    obtain ⟨i, _, t⟩ := plc_mem hx
    obtain ⟨pre, a, b, c, d, post, e2, _, tk⟩ := taken_here t
    rw [e2] at h
    exact absurd ((Step.here tk).prefix pre) (h _ _)
theorem Run.suffix {p q : List Int} {cs : List (Int × Int)} (h : Run p cs q) (l : List Int) : Run (p ++ l) cs (q ++ l) := by
  induction h with
  | nil p => exact .nil _
  | cons s _ ih => exact .cons (s.suffix l) ih
theorem Run.ends {p r : List Int} {cs : List (Int × Int)} (h : Run p cs r) : (cs = [] ∧ p = r) ∨ 2 ≤ r.length := by
  induction h with
  | nil p => exact .inl ⟨rfl, rfl⟩
  | @cons p q r c cs s h ih =>
    refine .inr ?_
    rcases ih with ⟨_, e⟩ | e
    · subst e
      have : ∀ {p q : List Int} {c : Int × Int}, Step p c q → 2 ≤ q.length := by
        intro p q c s
        induction s with
        | here _ => simp only [List.length_cons]; omega
        | there _ ih => simp only [List.length_cons]; omega
      exact this s
    · exact e
theorem tq_zig : ∀ (l : List Int) (b a : Int), ZZ (b :: a :: l) → tq b a l = a :: l
  | [], _, _, _ => rfl
  | r :: l, b, a, z => by
    have h1 := z.1
    simp only [tq]
    rw [if_neg (by omega), if_neg (by omega), tq_zig l a r z.2]
theorem zz_tp {ps : List Int} (z : ZZ ps) : tp ps = ps := by
  match ps, z with
  | [], _ => rfl
  | [x], _ => rfl
  | x :: y :: l, z =>
    show ts x (y :: l) = _
    simp only [ts]
    rw [if_neg (zz_cons z), tq_zig l x y z]
/-- pairs in their order -/
abbrev Le (r s : Int × Int) : Prop := r.1 < s.1 ∨ (r.1 = s.1 ∧ r.2 ≤ s.2)
theorem le_anti {r s : Int × Int} (h1 : Le r s) (h2 : Le s r) : r = s := by
  obtain ⟨a, b⟩ := r
  obtain ⟨c, d⟩ := s
  have e1 : a = c := by simp only [Le] at h1 h2; omega
  have e2 : b = d := by simp only [Le] at h1 h2; omega
  rw [e1, e2]
theorem sorted_same : ∀ {l m : List (Int × Int)}, l.Perm m → l.Pairwise Le → m.Pairwise Le → l = m
  | [], m, h, _, _ => (List.Perm.nil_eq h)
  | x :: l, m, h, h1, h2 => by
    cases m with
    | nil => exact absurd h.length_eq (by simp)
    | cons y m =>
      have hx := List.pairwise_cons.mp h1
      have hy := List.pairwise_cons.mp h2
      have e : x = y := by
        have m1 : x ∈ y :: m := h.mem_iff.mp List.mem_cons_self
        have m2 : y ∈ x :: l := h.mem_iff.mpr List.mem_cons_self
        rcases List.mem_cons.mp m1 with e | e
        · exact e
        · rcases List.mem_cons.mp m2 with e' | e'
          · exact e'.symm
          · exact le_anti (hx.1 y e') (hy.1 x e)
      subst e
      rw [sorted_same ((List.perm_cons x).mp h) hx.2 hy.2]
end RN

/-! readings put behind a rest one by one -/
namespace RS
open PM RM RN
/-- the last of some points is none any more with a reading behind it -/
def lo : List Int → Int → Bool
  | [], _ => false
  | [u], r => decide (u = r)
  | [b, u], r => decide (u = r) || decide (Btw u b r)
  | _ :: u :: v :: t, r => lo (u :: v :: t) r
def push : List Int → Int → List Int
  | [], r => [r]
  | [u], r => if u = r then [r] else [u, r]
  | [b, u], r => if u = r ∨ Btw u b r then [b, r] else [b, u, r]
  | b :: u :: v :: t, r => b :: push (u :: v :: t) r
theorem lo_two : ∀ (dn : List Int) (b u r : Int), lo (dn ++ [b, u]) r = (decide (u = r) || decide (Btw u b r))
  | [], _, _, _ => rfl
  | [x], _, _, _ => rfl
  | x :: y :: dn, b, u, r => by
    have h := lo_two (y :: dn) b u r
    cases dn with
    | nil => exact h
    | cons z dn => exact h
theorem push_lo : ∀ (p : List Int) (r : Int), push p r = (if lo p r = true then p.dropLast else p) ++ [r]
  | [], _ => rfl
  | [u], r => by
    simp only [push, lo, decide_eq_true_eq]
    split <;> simp
  | [b, u], r => by
    simp only [push, lo, Bool.or_eq_true, decide_eq_true_eq]
    split <;> simp
  | b :: u :: v :: t, r => by
    have h := push_lo (u :: v :: t) r
    simp only [push, lo]
    rw [h]
    by_cases e : lo (u :: v :: t) r = true
    · simp [e]
    · simp [e]
theorem push_two (dn : List Int) (b u r : Int) : push (dn ++ [b, u]) r = if u = r ∨ Btw u b r then dn ++ [b, r] else dn ++ [b, u, r] := by
  rw [push_lo, lo_two]
  simp only [Bool.or_eq_true, decide_eq_true_eq]
  split
  · rw [show dn ++ [b, u] = (dn ++ [b]) ++ [u] by simp, List.dropLast_concat]; simp
  · simp
theorem push_cons (b : Int) : ∀ {p : List Int} (r : Int), 2 ≤ p.length → push (b :: p) r = b :: push p r
  | [], _, h => by simp at h
  | [_], _, h => by simp at h
  | _ :: _ :: _, _, _ => rfl
theorem tq_ne (b a : Int) : ∀ l, 1 ≤ (tq b a l).length
  | [] => Nat.le_refl _
  | r :: l => by
    simp only [tq]
    split
    · exact tq_ne b a l
    · split
      · exact tq_ne b r l
      · simp
theorem tq_push : ∀ (l : List Int) (b a r : Int), b :: tq b a (l ++ [r]) = push (b :: tq b a l) r
  | [], b, a, r => by
    show b :: tq b a [r] = push [b, a] r
    simp only [tq, push]
    by_cases e : a = r
    · rw [if_pos e, if_pos (Or.inl e), e]
    · rw [if_neg e]
      by_cases bt : Btw a b r
      · rw [if_pos bt, if_pos (Or.inr bt)]
      · rw [if_neg bt, if_neg (fun z => z.elim e bt)]
  | x :: l, b, a, r => by
    simp only [List.cons_append, tq]
    by_cases e : a = x
    · rw [if_pos e, if_pos e]
      exact tq_push l b a r
    · rw [if_neg e, if_neg e]
      by_cases bt : Btw a b x
      · rw [if_pos bt, if_pos bt]
        exact tq_push l b x r
      · rw [if_neg bt, if_neg bt, tq_push l a x r, push_cons b r (by have := tq_ne a x l; simp; omega)]
theorem ts_push : ∀ (l : List Int) (a r : Int), ts a (l ++ [r]) = push (ts a l) r
  | [], a, r => by
    show ts a [r] = push [a] r
    simp only [ts, push]
    by_cases e : a = r
    · rw [if_pos e, if_pos e, e]
    · rw [if_neg e, if_neg e]
      rfl
  | x :: l, a, r => by
    simp only [List.cons_append, ts]
    by_cases e : a = x
    · rw [if_pos e, if_pos e]
      exact ts_push l a r
    · rw [if_neg e, if_neg e]
      exact tq_push l a x r
theorem tp_push (l : List Int) (r : Int) : tp (l ++ [r]) = push (tp l) r := by
  cases l with
  | nil => rfl
  | cons a l => exact ts_push l a r
theorem tp_take {ns : List Int} {i : Nat} {r : Int} (h : ns[i]? = some r) : tp (ns.take (i + 1)) = push (tp (ns.take i)) r := by
  rw [List.take_add_one, h]
  exact tp_push _ _
/-- with points that go up and down, so they go on -/
theorem zz_push {p : List Int} (r : Int) (h : ZZ p) : ZZ (push p r) := by
  have e := tp_push p r
  rw [zz_tp h] at e
  rw [← e]
  exact tp_zz _
theorem taken_abs {a b c d : Int} (h : ZZ (a :: b :: c :: d :: [])) : Taken a b c d ↔ (((b - a).natAbs : Int) ≥ ((c - b).natAbs : Int) ∧ ((d - c).natAbs : Int) ≥ ((c - b).natAbs : Int)) := by
  rw [taken_iff h]
  have h1 := h.1
  have h2 := h.2.1
  omega
theorem zz_at {ps : List Int} : ZZ ps → ∀ {i : Nat} {a b c d : Int}, ps[i]? = some a → ps[i + 1]? = some b → ps[i + 2]? = some c → ps[i + 3]? = some d → ZZ [a, b, c, d] := by
  intro h
  induction ps with
  | nil => intro i a b c d h0; cases h0
  | cons x p ih =>
    intro i a b c d h0 h1 h2 h3
    cases i with
    | succ i => exact ih h.tail h0 h1 h2 h3
    | zero =>
      match p, h, h1, h2, h3 with
      | y :: z :: u :: t, h, h1, h2, h3 =>
        obtain rfl := Option.some.inj h0
        obtain rfl := Option.some.inj h1
        obtain rfl := Option.some.inj h2
        obtain rfl := Option.some.inj h3
        exact h.four
theorem zz_mid {pre : List Int} {a b c d : Int} {post : List Int} (h : ZZ (pre ++ a :: b :: c :: d :: post)) : ZZ [a, b, c, d] := by
  induction pre with
  | nil => exact h.four
  | cons x p ih => exact ih h.tail
theorem zz_mid3 {pre : List Int} {a b c : Int} {post : List Int} (h : ZZ (pre ++ a :: b :: c :: post)) : ((a < b ∧ c < b) ∨ (b < a ∧ b < c)) := by
  induction pre with
  | nil => exact h.1
  | cons x p ih => exact ih h.tail
theorem step_on {p q : List Int} {cy : Int × Int} (s : Step p cy q) : ∀ {m : List Int} {b u : Int}, p = m ++ [b, u] → ZZ p →
    ∃ m' b', q = m' ++ [b', u] ∧ (b < u ↔ b' < u) ∧ (u < b ↔ u < b') ∧ ∀ r, (b < u → u ≤ r) → (u < b → r ≤ u) → Step (m ++ [b, r]) cy (m' ++ [b', r]) := by
  induction s with
  | @here a b1 c d post t =>
    intro m b u e z
    have ti := (taken_iff z.four).mp t
    rcases List.eq_nil_or_concat post with rfl | ⟨post1, y, rfl⟩
    · have e2 : [a, b1] ++ [c, d] = m ++ [b, u] := e
      obtain ⟨rfl, e4⟩ := List.append_inj' e2 rfl
      injection e4 with e5 e6
      injection e6 with e6 _
      subst e5 e6
      refine ⟨[], a, rfl, by omega, by omega, fun r h1 h2 => ?_⟩
      have zr : ZZ [a, b1, c, r] := ⟨z.1, by have := z.2.1; constructor; have := z.1; omega; show c ≠ r; omega⟩
      exact .here ((taken_iff zr).mpr (by omega))
    · rcases List.eq_nil_or_concat post1 with rfl | ⟨post2, x, rfl⟩
      · have e2 : [a, b1, c] ++ [d, y] = m ++ [b, u] := e
        obtain ⟨rfl, e4⟩ := List.append_inj' e2 rfl
        injection e4 with e5 e6
        injection e6 with e6 _
        subst e5 e6
        exact ⟨[a], d, rfl, Iff.rfl, Iff.rfl, fun r _ _ => .here t⟩
      · have e2 : (a :: b1 :: c :: d :: post2) ++ [x, y] = m ++ [b, u] := by rw [← e]; simp
        obtain ⟨rfl, e4⟩ := List.append_inj' e2 rfl
        injection e4 with e5 e6
        injection e6 with e6 _
        subst e5 e6
        exact ⟨a :: d :: post2, x, by simp, Iff.rfl, Iff.rfl, fun r _ _ => .here t⟩
  | @there x p q cy s ih =>
    intro m b u e z
    cases m with
    | nil =>
      have hl := s.len
      injection e with _ e
      rw [e] at hl
      simp at hl
    | cons y m =>
      injection e with e1 e2
      subst e1
      obtain ⟨m', b', h1, h2, h3, h4⟩ := ih e2 z.tail
      exact ⟨x :: m', b', by rw [h1]; rfl, h2, h3, fun r k1 k2 => .there (h4 r k1 k2)⟩
theorem run_on {p q : List Int} {cs : List (Int × Int)} (h : Run p cs q) : ∀ {m : List Int} {b u : Int}, p = m ++ [b, u] → ZZ p →
    ∃ m' b', q = m' ++ [b', u] ∧ (b < u ↔ b' < u) ∧ (u < b ↔ u < b') ∧ ∀ r, (b < u → u ≤ r) → (u < b → r ≤ u) → Run (m ++ [b, r]) cs (m' ++ [b', r]) := by
  induction h with
  | nil p => exact fun {m b u} e z => ⟨m, b, e, Iff.rfl, Iff.rfl, fun r _ _ => .nil _⟩
  | @cons p q r0 c cs s run ih =>
    intro m b u e z
    obtain ⟨m1, b1, h1, h2, h3, h4⟩ := step_on s e z
    obtain ⟨m2, b2, k1, k2, k3, k4⟩ := ih h1 (ZZ.step s z)
    exact ⟨m2, b2, k1, h2.trans k2, h3.trans k3, fun r j1 j2 => .cons (h4 r j1 j2) (k4 r (fun z => j1 (h2.mpr z)) (fun z => j2 (h3.mpr z)))⟩
theorem step_two {p q : List Int} {c : Int × Int} (s : Step p c q) : 2 ≤ q.length := by
  induction s with
  | here _ => simp only [List.length_cons]; omega
  | there _ ih => simp only [List.length_cons]; omega
theorem two_last {p : List Int} (h : 2 ≤ p.length) : ∃ m b u, p = m ++ [b, u] := by
  rcases List.eq_nil_or_concat p with rfl | ⟨m1, d, rfl⟩
  · simp at h
  · rcases List.eq_nil_or_concat m1 with rfl | ⟨m2, c, rfl⟩
    · simp at h
    · exact ⟨m2, c, d, by simp⟩
/-- a reading behind a load is a reading behind its rest -/
theorem run_push {p q : List Int} {cs : List (Int × Int)} (h : Run p cs q) (z : ZZ p) (r : Int) : Run (push p r) cs (push q r) := by
  by_cases h2 : 2 ≤ p.length
  · obtain ⟨m, b, u, rfl⟩ := two_last h2
    obtain ⟨m', b', rfl, e1, e2, e3⟩ := run_on h rfl z
    rw [push_two, push_two]
    by_cases hb : u = r ∨ Btw u b r
    · have hb' : u = r ∨ Btw u b' r := hb.imp id (fun k => by omega)
      rw [if_pos hb, if_pos hb']
      exact e3 r (fun k => by omega) (fun k => by omega)
    · have hb' : ¬ (u = r ∨ Btw u b' r) := fun k => hb (k.imp id (fun k => by omega))
      rw [if_neg hb, if_neg hb']
      have := RN.Run.suffix h [r]
      simpa using this
  · cases h with
    | nil _ => exact .nil _
    | cons s _ =>
      have := s.len
      have := step_two s
      exact absurd (show 2 ≤ p.length by omega) h2
theorem Run.append {p q r : List Int} {cs ds : List (Int × Int)} (h : Run p cs q) (k : Run q ds r) : Run p (cs ++ ds) r := by
  induction h with
  | nil p => exact k
  | cons s _ ih => exact .cons s (ih k)
/-- one reading more -/
theorem stream {ns : List Int} {i : Nat} {r : Int} {cs cs2 : List (Int × Int)} {rs rs2 : List Int} (hr : ns[i]? = some r) (h : Run (tp (ns.take i)) cs rs) (k : Run (push rs r) cs2 rs2) : Run (tp (ns.take (i + 1))) (cs ++ cs2) rs2 := by
  rw [tp_take hr]
  exact Run.append (run_push h (tp_zz _) r) k
theorem push_len (p : List Int) (r : Int) : (push p r).length ≤ p.length + 1 := by
  rw [push_lo]
  split <;> simp
end RS

/-! turning_points, swings -/
namespace PB
open PySem PySem.Spec PyProof.Rows L2 KA PH PM PA RM RS
theorem atI_last2 (xs : List V) (u v : V) : atI (xs ++ [u] ++ [v]) (-2) = some u := by
  have hl : (xs ++ [u] ++ [v]).length = xs.length + 2 := by simp
  have h : ixN (xs ++ [u] ++ [v]).length (-2) = some xs.length := by
    unfold ixN
    rw [hl, if_neg (by decide), if_pos (by omega)]
    congr 1
    omega
  unfold atI
  rw [h]
  show (xs ++ [u] ++ [v])[xs.length]? = some u
  simp
theorem drop_at {ns : List Int} {i : Nat} {r : Int} (h : ns[i]? = some r) : ns.drop i = r :: ns.drop (i + 1) := by
  obtain ⟨h1, h2⟩ := List.getElem?_eq_some_iff.mp h
  rw [List.drop_eq_getElem_cons h1, h2]
section
variable {P : Program} {w : World} {K : PySem.W.Frag} {mg : Str → Option Value} {base : Heap}
def spTPl (K : PySem.W.Frag) : Sp := fun vs H Q _ => ∃ (a : Addr) (ns : List Int), vs = [.ref a] ∧ SqL K H a (ns.map V.int) ∧ ns.length ≤ 2500 ∧ ∀ H' p, Same H H' → H p = none → H' p = some (.tup ((tp ns).map V.int)) → Q (.ref p) H'
def spTPt (K : PySem.W.Frag) : Sp := fun vs H Q _ => ∃ (a : Addr) (ns : List Int), vs = [.ref a] ∧ SqT K H a (ns.map V.int) ∧ ns.length ≤ 2500 ∧ ∀ H' p, Same H H' → H p = none → H' p = some (.tup ((tp ns).map V.int)) → Q (.ref p) H'
abbrev spTP (K : PySem.W.Frag) : Sp := fun vs H Q E => spTPl K vs H Q E ∨ spTPt K vs H Q E
def spLO (K : PySem.W.Frag) : Sp := fun vs H Q _ => ∃ (a : Addr) (ps : List Int) (r : Int), vs = [.ref a, .int r] ∧ SqL K H a (ps.map V.int) ∧ Q (.bl (lo ps r)) H
theorem ends3 (ps : List Int) : ps = [] ∨ (∃ u, ps = [u]) ∨ ∃ dn b u, ps = dn ++ [b, u] := by
  rcases List.eq_nil_or_concat ps with h | ⟨m1, d, h⟩
  · exact .inl h
  · rcases List.eq_nil_or_concat m1 with h1 | ⟨m2, c, h1⟩
    · subst h1
      exact .inr (.inl ⟨d, by rw [h]; rfl⟩)
    · subst h1
      exact .inr (.inr ⟨m2, c, d, by rw [h]; simp⟩)
theorem ok_LO {f fB : Addr} {fd fdB : FuncData} {k : Nat} (F : Fun K "is_left_out" "is_left_out" sLO f fd) (FB : Fun K "_lies_between" "_lies_between" sBtw fB fdB) (gB : mg "_lies_between" = some (.ref fB)) (bB : Binds K fdB ["reading", "before", "after"] [])
    (ml : mg "len" = none) : FnOk P w K mg base CX0 (k + 2) f fd ["points", "reading"] (spLO K) := by
  have GB : FnOk P w K mg base CX0 (k + 1) fB fdB ["reading", "before", "after"] spBtw := ok_btw FB
  refine F.ok scLO (fun vs H Q E h => ?_) (fun cdv A outer s H vs Q E hr h => ?_)
  · obtain ⟨a, ps, r, rfl, _⟩ := h
    rfl
  · obtain ⟨a, ps, r, rfl, hS, hq⟩ := h
    refine ⟨_, pss_cons (ps_if (pt_not (pt_truth (pv 0) (by intro _; rfl))) (pss_one (ps_ret pe_bl)) pss_nil)
      (pss_cons (ps_set (i := 2) scLO.nd rfl (.inl rfl) (pe_ix ix_list (pv 0) (pe_un un_neg pe_int) (fun _ _ => rfl)))
      (pss_one (ps_ret (pe_or (pe_cmpR op_eq (pv 2) (pv 1) (nomark _)) (pe_one (pe_and (pe_cmpR op_gt (pe_callB call_len_seq (by rfl) ml PySem.boot_len (pa_cons (pv 0) pa_nil)) pe_int (nomark _))
        (pe_one (pe_call GB hr (by rfl) gB FB.kp bB .nil pass0 (pa_cons (pv 2) (pa_cons (pe_ix ix_list (pv 0) (pe_un un_neg pe_int) (fun _ _ => rfl)) (pa_cons (pv 1) pa_nil))))))))))), ?_⟩
    rcases ends3 ps with rfl | ⟨u, rfl⟩ | ⟨dn, b, u, rfl⟩
    · refine ⟨.ref a, rfl, false, .inl ⟨[], hS, rfl⟩, ?_⟩
      refine iteT ?_
      exact hq
    · refine ⟨.ref a, rfl, true, .inl ⟨[.int u], hS, rfl⟩, ?_⟩
      refine iteF ?_
      refine ⟨.ref a, rfl, 1, rfl, a, _, -1, .int u, rfl, rfl, hS, rfl, .int u, rfl, .int r, rfl, rfl, _, rfl, ?_⟩
      by_cases e : u = r
      · rw [show lo [u] r = true from decide_eq_true e] at hq
        rw [decide_eq_true (show V.int u = V.int r by rw [e])]
        exact iteT hq
      · rw [show lo [u] r = false from decide_eq_false e] at hq
        rw [decide_eq_false (show ¬ V.int u = V.int r from fun z => e (V.int.inj z))]
        exact iteF ⟨.ref a, rfl, a, _, rfl, .inl hS, _, _, rfl, rfl, _, rfl, iteF hq⟩
    · have em : ((dn ++ [b, u]).map V.int) = (dn.map V.int ++ [V.int b]) ++ [V.int u] := by simp
      rw [em] at hS
      have e0 : (!((dn.map V.int ++ [V.int b]) ++ [V.int u]).isEmpty) = true := by cases dn <;> rfl
      have hL : ((dn.map V.int ++ [V.int b]) ++ [V.int u]).length = dn.length + 2 := by simp
      rw [lo_two] at hq
      refine ⟨.ref a, rfl, true, .inl ⟨_, hS, e0.symm⟩, ?_⟩
      refine iteF ?_
      refine ⟨.ref a, rfl, 1, rfl, a, _, -1, .int u, rfl, rfl, hS, atI_last _ _, .int u, rfl, .int r, rfl, rfl, _, rfl, ?_⟩
      by_cases e : u = r
      · rw [decide_eq_true e, Bool.true_or] at hq
        rw [decide_eq_true (show V.int u = V.int r by rw [e])]
        exact iteT hq
      · rw [decide_eq_false e, Bool.false_or] at hq
        rw [decide_eq_false (show ¬ V.int u = V.int r from fun z => e (V.int.inj z))]
        have h2 : decide ((((dn.map V.int ++ [V.int b]) ++ [V.int u]).length : Int) > 1) = true := decide_eq_true (by rw [hL]; omega)
        refine iteF ⟨.ref a, rfl, a, _, rfl, .inl hS, _, _, rfl, rfl, _, rfl, ?_⟩
        rw [h2]
        exact iteT ⟨.int u, rfl, .ref a, rfl, 2, rfl, a, _, -2, .int b, rfl, rfl, hS, atI_last2 _ _ _, .int r, rfl, u, b, r, rfl, hq⟩
end
end PB

/-! swings; the law's own points -/
namespace PC
open PySem PySem.Spec PyProof.Rows L2 KA PH PM PA PB RM RS
theorem cut_to (xs : List V) (k : Nat) : cutV xs none (some ((k : Nat) : Int)) = xs.take k := by
  unfold cutV
  rw [HT.sIx_none, HT.sIx_nat]
  simp only [Nat.sub_zero, List.drop_zero]
  rcases Nat.le_total k xs.length with h | h
  · rw [Nat.min_eq_left h]
  · rw [Nat.min_eq_right h, List.take_length, List.take_of_length_le h]
theorem cut_from (xs : List V) (k : Nat) : cutV xs (some ((k : Nat) : Int)) none = xs.drop k := by
  unfold cutV
  rw [HT.sIx_nat, HT.sIx_none]
  rcases Nat.le_total k xs.length with h | h
  · rw [Nat.min_eq_left h, List.take_of_length_le (by rw [List.length_drop]; omega)]
  · rw [Nat.min_eq_right h, Nat.sub_self, List.drop_eq_nil_of_le h]
    rfl
/-- a list of i pairs stands at R, what was tracked stands -/
def Prs (H0 : Hp) (R : Addr) (ps : List Int) (i : Nat) (H : Hp) : Prop := Same H0 H ∧ ∃ xs, H R = some (.lst xs) ∧ PairsAt H xs ((sw ps).take i)
theorem Prs.start {H0 : Hp} {R : Addr} (ps : List Int) (n : H0 R = none) : Prs H0 R ps 0 (upd H0 R (.lst [])) := ⟨same_new n, [], upd_same, trivial⟩
theorem Prs.turn {H0 H1 H2 : Hp} {R q : Addr} {ps : List Int} {i : Nat} {x y : Int} (g : Prs H0 R ps i H1) (n : H0 R = none) (s : Same H1 H2) (nq : H2 q = none) (hx : ps[i]? = some x) (hy : ps[i + 1]? = some y) (hl : ps.length ≤ 2500) :
    ∃ acc, (upd H2 q (.tup [.int (rg x y).1, .int (rg x y).2])) R = some (.lst acc) ∧ acc.length < sizeLine ∧ Prs H0 R ps (i + 1) (upd (upd H2 q (.tup [.int (rg x y).1, .int (rg x y).2])) R (.lst (acc ++ [.ref q]))) := by
  obtain ⟨s0, xs, e, pa⟩ := g
  have e2 := s _ _ e
  have nRq : R ≠ q := ne_of_none e2 nq
  have sq : Same H2 (upd H2 q (.tup [.int (rg x y).1, .int (rg x y).2])) := same_new nq
  have hi : i < ps.length := (List.getElem?_eq_some_iff.mp hx).1
  have hxl : xs.length ≤ i := by rw [pa.length, List.length_take]; omega
  refine ⟨xs, sq _ _ e2, small3000 (by omega), same_again n ((s0.trans s).trans sq), xs ++ [.ref q], upd_same, ?_⟩
  rw [sw_take ps i x y hx hy]
  have other : ∀ {ys : List V} {rs : List (Int × Int)}, PairsAt H1 ys rs → PairsAt (upd (upd H2 q (.tup [.int (rg x y).1, .int (rg x y).2])) R (.lst (xs ++ [.ref q]))) ys rs := by
    intro ys
    induction ys with
    | nil => intro rs h; cases rs with
      | nil => trivial
      | cons _ _ => exact h.elim
    | cons z zs ih =>
      intro rs h
      cases rs with
      | nil => exact h.elim
      | cons r rs =>
        obtain ⟨⟨p, h1, h2⟩, h3⟩ := h
        have h4 := sq _ _ (s _ _ h2)
        have npR : p ≠ R := fun z => by rw [z, e] at h2; cases h2
        exact ⟨⟨p, h1, by rw [upd_ne npR]; exact h4⟩, ih h3⟩
  refine PairsAt.append (other pa) ⟨⟨q, rfl, ?_⟩, trivial⟩
  rw [upd_ne nRq.symm, upd_same]
theorem Prs.all {H0 H : Hp} {R : Addr} {ps : List Int} {i : Nat} (g : Prs H0 R ps i H) (h : ps.length - 1 ≤ i) : ∃ xs, H R = some (.lst xs) ∧ PairsAt H xs (sw ps) := by
  obtain ⟨_, xs, e, pa⟩ := g
  rw [List.take_of_length_le (by rw [sw_len]; exact h)] at pa
  exact ⟨xs, e, pa⟩
section
variable {P : Program} {w : World} {K : PySem.W.Frag} {mg : Str → Option Value} {base : Heap}
def spSw (K : PySem.W.Frag) : Sp := fun vs H Q _ => ∃ (a : Addr) (ns : List Int), vs = [.ref a] ∧ Sq K H a (ns.map V.int) ∧ ns.length ≤ 2500 ∧ ∀ H' p xs, Same H H' → H p = none → H' p = some (.lst xs) → PairsAt H' xs (sw (tp ns)) → Q (.ref p) H'
end
end PC

/-! places, points taken out -/
namespace QE
open PySem PySem.Spec PyProof.Rows L2 KA PH PM PA PB PC RM RN RS
abbrev sNum : Stmt := topS 2
theorem scNum : FnScope ["value"] ["value"] (defScope sNum) := ⟨rfl, rfl, rfl, by decide +kernel, rfl, by decide +kernel, by decide +kernel⟩
abbrev sMT : Stmt := topS 11
abbrev sPB : Stmt := topS 12
abbrev sCo : Stmt := topS 13
abbrev sClass : Stmt := topS 999
abbrev sLaw : Stmt := topS 33
theorem scMT : FnScope ["points", "place", "size"] ["points", "place"] (defScope sMT) := ⟨rfl, rfl, rfl, by decide +kernel, rfl, by decide +kernel, by decide +kernel⟩
theorem Sq.ix {K : PySem.W.Frag} {H : Hp} {a : Addr} {xs : List V} {z : Int} {v : V} {Q : VK} (h : Sq K H a xs) (e : atI xs z = some v) (q : Q v H) : rIx K (.ref a) (.int z) H Q := by
  rcases h with h | h
  · exact .inl ⟨a, xs, z, v, rfl, rfl, h, e, q⟩
  · exact .inr (.inl ⟨a, xs, z, v, rfl, rfl, h, e, q⟩)
section
variable {P : Program} {w : World} {K : PySem.W.Frag} {mg : Str → Option Value} {base : Heap}
def spMT (K : PySem.W.Frag) : Sp := fun vs H Q _ => ∃ (a : Addr) (ps : List Int) (i : Nat) (z x y t u : Int), vs = [.ref a, .int z] ∧ z = (i : Int) + 1 ∧ Sq K H a (ps.map V.int) ∧ ZZ ps ∧ ps[i]? = some x ∧ ps[i + 1]? = some y ∧ ps[i + 2]? = some t ∧ ps[i + 3]? = some u ∧
  ∀ H', Same H H' → Q (.bl (takenAt ps i)) H'
theorem abs_i (i : Int) : (if i < 0 then -i else i) = (i.natAbs : Int) := by split <;> omega
theorem ok_MT {f : Addr} {fd : FuncData} {k : Nat} (F : Fun K "_may_be_taken" "_may_be_taken" sMT f fd) (ma : mg "abs" = none) : FnOk P w K mg base CX0 (k + 1) f fd ["points", "place"] (spMT K) := by
  refine F.ok scMT (fun vs H Q E h => ?_) (fun cdv A outer s H vs Q E hr h => ?_)
  · obtain ⟨a, ps, i, z, x, y, t, u, rfl, _⟩ := h
    rfl
  · obtain ⟨a, ps, i, z, x, y, t, u, rfl, rfl, hS, zz, e0, e1, e2, e3, hq⟩ := h
    refine ⟨_, pss_cons (ps_set (i := 2) scMT.nd rfl (.inl rfl) (pe_callB call_abs (by rfl) ma (by decide +kernel) (pa_cons (pe_op op_sub (pe_ix ix_seq (pv 0) (pe_op op_add (pv 1) pe_int) (fun _ _ => rfl)) (pe_ix ix_seq (pv 0) (pv 1) (fun _ _ => rfl))) pa_nil)))
      (pss_one (ps_ret (pe_and (pe_cmpR op_ge (pe_callB call_abs (by rfl) ma (by decide +kernel) (pa_cons (pe_op op_sub (pe_ix ix_seq (pv 0) (pv 1) (fun _ _ => rfl)) (pe_ix ix_seq (pv 0) (pe_op op_sub (pv 1) pe_int) (fun _ _ => rfl))) pa_nil)) (pv 2) (nomark _))
        (pe_one (pe_cmpR op_ge (pe_callB call_abs (by rfl) ma (by decide +kernel) (pa_cons (pe_op op_sub (pe_ix ix_seq (pv 0) (pe_op op_add (pv 1) pe_int) (fun _ _ => rfl)) (pe_ix ix_seq (pv 0) (pe_op op_add (pv 1) pe_int) (fun _ _ => rfl))) pa_nil)) (pv 2) (nomark _)))))), ?_⟩
    have a0 : atI (ps.map V.int) ((i : Int) + 1 - 1) = some (.int x) := at_of (j := i) (by omega) (at_int e0)
    have a1 : atI (ps.map V.int) ((i : Int) + 1) = some (.int y) := at_of (j := i + 1) (by omega) (at_int e1)
    have a2 : atI (ps.map V.int) ((i : Int) + 1 + 1) = some (.int t) := at_of (j := i + 2) (by omega) (at_int e2)
    have a3 : atI (ps.map V.int) ((i : Int) + 1 + 2) = some (.int u) := at_of (j := i + 3) (by omega) (at_int e3)
    have hq2 := hq H (Same.refl H)
    rw [taken_get e0 e1 e2 e3] at hq2
    have eT : decide (Taken x y t u) = (decide (((y - x).natAbs : Int) ≥ ((t - y).natAbs : Int)) && decide (((u - t).natAbs : Int) ≥ ((t - y).natAbs : Int))) := by
      rw [← Bool.decide_and, decide_eq_decide]
      exact taken_abs (zz_at zz e0 e1 e2 e3)
    rw [eT] at hq2
    refine ⟨.ref a, rfl, .int ((i : Int) + 1), rfl, _, 1, rfl, rfl, Sq.ix hS a2 ⟨.ref a, rfl, .int ((i : Int) + 1), rfl, Sq.ix hS a1 ⟨t, y, rfl, rfl, _, rfl, ?_⟩⟩⟩
    refine ⟨.ref a, rfl, .int ((i : Int) + 1), rfl, Sq.ix hS a1 ⟨.ref a, rfl, .int ((i : Int) + 1), rfl, _, 1, rfl, rfl, Sq.ix hS a0 ⟨y, x, rfl, rfl, _, rfl, ?_⟩⟩⟩
    refine ⟨_, rfl, _, _, rfl, rfl, _, rfl, ?_⟩
    rw [abs_i, abs_i]
    cases h1 : decide (((y - x).natAbs : Int) ≥ ((t - y).natAbs : Int)) with
    | true =>
      rw [h1, Bool.true_and] at hq2
      refine iteT ⟨.ref a, rfl, .int ((i : Int) + 1), rfl, _, 2, rfl, rfl, Sq.ix hS a3 ⟨.ref a, rfl, .int ((i : Int) + 1), rfl, _, 1, rfl, rfl, Sq.ix hS a2 ⟨u, t, rfl, rfl, _, rfl, ?_⟩⟩⟩
      refine ⟨_, rfl, _, _, rfl, rfl, ?_⟩
      rw [abs_i]
      exact hq2
    | false =>
      rw [h1, Bool.false_and] at hq2
      exact iteF hq2
def spRem (K : PySem.W.Frag) : Sp := fun vs H Q _ => ∃ (a : Addr) (ps : List Int), vs = [.ref a] ∧ Sq K H a (ps.map V.int) ∧ ZZ ps ∧ ps.length ≤ 2500 ∧ ∀ H' p, Same H H' → H p = none → H' p = some (.tup ((plc ps).map V.int)) → Q (.ref p) H'
end
end QE

/-! take; the stack -/
namespace QF
open PySem PySem.Spec PyProof.Rows L2 KA PH PM PA PB PC RM RN RS QE
theorem scPB : FnScope ["rest", "reading", "cycles"] ["rest", "reading"] (defScope sPB) := ⟨rfl, rfl, rfl, by decide +kernel, rfl, by decide +kernel, by decide +kernel⟩
theorem scCo : FnScope ["load", "cycles", "rest", "reading"] ["load"] (defScope sCo) := ⟨rfl, rfl, rfl, by decide +kernel, rfl, by decide +kernel, by decide +kernel⟩
theorem taken_all {ps : List Int} {i : Nat} (h : takenAt ps i = true) : ∃ x y t u, ps[i]? = some x ∧ ps[i + 1]? = some y ∧ ps[i + 2]? = some t ∧ ps[i + 3]? = some u := by
  have := taken_lt h
  exact ⟨_, _, _, _, List.getElem?_eq_getElem (by omega), List.getElem?_eq_getElem (by omega), List.getElem?_eq_getElem (by omega), List.getElem?_eq_getElem (by omega)⟩
section
variable {P : Program} {w : World} {K : PySem.W.Frag} {mg : Str → Option Value} {base : Heap}
def spIR (K : PySem.W.Frag) : Sp := fun vs H Q _ => ∃ (a : Addr) (ps : List Int) (i : Nat) (z : Int), vs = [.ref a, .int z] ∧ z = (i : Int) + 1 ∧ Sq K H a (ps.map V.int) ∧ ZZ ps ∧ takenAt ps i = true ∧ ∀ H', Same H H' → Q (.bl true) H'
def spNum : Sp := fun vs H Q _ => ∃ z : Int, vs = [.int z] ∧ Q (.bl true) H
theorem ok_Num {f : Addr} {fd : FuncData} {k : Nat} (F : Fun K "is_number" "is_number" sNum f fd) (ms : mg "isinstance" = none) (mi : mg "int" = none) (mb : mg "bool" = none) : FnOk P w K mg base CX0 (k + 1) f fd ["value"] spNum := by
  refine F.ok scNum (fun vs H Q E h => ?_) (fun cdv A outer s H vs Q E hr h => ?_)
  · obtain ⟨z, rfl, _⟩ := h
    rfl
  · obtain ⟨z, rfl, hq⟩ := h
    refine ⟨_, pss_one (ps_ret (pe_and (pe_callB call_isi (by rfl) ms (by decide +kernel) (pa_cons (pv 0) (pa_cons (pe_bltn (v := .ty "int") (by rfl) mi (by decide +kernel) rfl) pa_nil)))
        (pe_one (pe_not (pe_callB call_isi (by rfl) ms (by decide +kernel) (pa_cons (pv 0) (pa_cons (pe_bltn (v := .ty "bool") (by rfl) mb (by decide +kernel) rfl) pa_nil))))))), ?_⟩
    refine ⟨.int z, rfl, _, .ty "int", .type "int", .type "int", true, rfl, .ty "int", .base (.int _), kit_ty (by decide +kernel), true, rfl, iteT ?_⟩
    exact ⟨.int z, rfl, _, .ty "bool", .type "int", .type "bool", false, rfl, .ty "bool", .base (.int _), kit_ty (by decide +kernel), false, rfl, hq⟩
end
end QF

/-! the stack -/
namespace QG
open PySem PySem.Spec PyProof.Rows L2 KA PH PM PA PB PC RM RN RS KD QE QF
theorem atI_last3 (xs : List V) (u v w : V) : atI (xs ++ [u, v, w]) (-3) = some u := by
  have hl : (xs ++ [u, v, w]).length = xs.length + 3 := by simp
  have h : ixN (xs ++ [u, v, w]).length (-3) = some xs.length := by
    unfold ixN
    rw [hl, if_neg (by decide), if_pos (by omega)]
    congr 1
    omega
  unfold atI
  rw [h]
  show (xs ++ [u, v, w])[xs.length]? = some u
  simp
theorem atI_last2' (xs : List V) (u v w : V) : atI (xs ++ [u, v, w]) (-2) = some v := by
  have := atI_last2 (xs ++ [u]) v w
  simpa using this
theorem last3 : ∀ {m : List Int}, 3 ≤ m.length → ∃ pre b c d, m = pre ++ [b, c, d] := by
  intro m h
  rcases List.eq_nil_or_concat m with rfl | ⟨m1, d, rfl⟩
  · simp at h
  · rcases List.eq_nil_or_concat m1 with rfl | ⟨m2, c, rfl⟩
    · simp at h
    · rcases List.eq_nil_or_concat m2 with rfl | ⟨m3, b, rfl⟩
      · simp at h
      · exact ⟨m3, b, c, d, by simp⟩
theorem pairs_upd {H : Hp} {R : Addr} {l l' : List V} (e : H R = some (.lst l)) : ∀ {xs : List V} {rs : List (Int × Int)}, PairsAt H xs rs → PairsAt (upd H R (.lst l')) xs rs
  | [], [], _ => trivial
  | x :: xs, r :: rs, ⟨⟨p, h1, h2⟩, h3⟩ => ⟨⟨p, h1, by rw [upd_ne (fun z => by rw [z, e] at h2; cases h2)]; exact h2⟩, pairs_upd e h3⟩
  | [], _ :: _, h => h.elim
  | _ :: _, [], h => h.elim
section
variable {P : Program} {w : World} {K : PySem.W.Frag} {mg : Str → Option Value} {base : Heap}
def spTPq (K : PySem.W.Frag) : Sp := fun vs H Q _ => ∃ (a : Addr) (ns : List Int), vs = [.ref a] ∧ Sq K H a (ns.map V.int) ∧ ns.length ≤ 2500 ∧ ∀ H' p, Same H H' → H p = none → H' p = some (.tup ((tp ns).map V.int)) → Q (.ref p) H'
theorem tpq_of {k : Nat} {f : Addr} {fd : FuncData} (G : FnOk P w K mg base CX0 k f fd ["load"] (spTP K)) : FnOk P w K mg base CX0 k f fd ["load"] (spTPq K) :=
  G.imp fun vs H Q E ⟨a, ns, e, hs, hl, q⟩ => hs.elim (fun z => .inl ⟨a, ns, e, z, hl, q⟩) (fun z => .inr ⟨a, ns, e, z, hl, q⟩)
theorem ch_pairs {f : Addr} {H H' : Hp} {l : List V} (c : Ch f H H') (e : H f = some (.lst l)) : ∀ {xs : List V} {rs : List (Int × Int)}, PairsAt H xs rs → PairsAt H' xs rs
  | [], [], _ => trivial
  | x :: xs, r :: rs, ⟨⟨p, h1, h2⟩, h3⟩ => ⟨⟨p, h1, c _ _ (fun z => by rw [z, e] at h2; cases h2) h2⟩, ch_pairs c e h3⟩
  | [], _ :: _, h => h.elim
  | _ :: _, [], h => h.elim
/-- what put_behind holds -/
structure Bhd (H : Hp) (C R : Addr) (xs : List V) (cs : List (Int × Int)) (rs : List Int) (Hx : Hp) : Prop where
  ch : Ch R H Hx
  c : Hx C = some (.lst xs)
  pa : PairsAt Hx xs cs
  r : Hx R = some (.lst (rs.map V.int))
theorem Bhd.same {H : Hp} {C R : Addr} {xs : List V} {cs : List (Int × Int)} {rs : List Int} {H1 H2 : Hp} (g : Bhd H C R xs cs rs H1) (s : Same H1 H2) : Bhd H C R xs cs rs H2 :=
  ⟨g.ch.trans (.of_same s), s _ _ g.c, g.pa.same s, s _ _ g.r⟩
theorem Bhd.rest {H : Hp} {C R : Addr} {xs : List V} {cs : List (Int × Int)} {rs : List Int} {H1 : Hp} (g : Bhd H C R xs cs rs H1) (nCR : C ≠ R) (rs' : List Int) : Bhd H C R xs cs rs' (upd H1 R (.lst (rs'.map V.int))) :=
  ⟨g.ch.trans .put, by rw [upd_ne nCR]; exact g.c, pairs_upd g.r g.pa, upd_same⟩
theorem Bhd.cyc {H : Hp} {C R q : Addr} {xs : List V} {cs : List (Int × Int)} {rs : List Int} {H1 : Hp} {c : Int × Int} (g : Bhd H C R xs cs rs H1) (nC : H C = none) (nCR : C ≠ R) (hq : H1 q = some (.tup [.int c.1, .int c.2])) :
    Bhd H C R (xs ++ [.ref q]) (cs ++ [c]) rs (upd H1 C (.lst (xs ++ [.ref q]))) :=
  ⟨Ch.again nC g.ch, upd_same, PairsAt.append (pairs_upd g.c g.pa) ⟨⟨q, rfl, by rw [upd_ne (fun z => by rw [z, g.c] at hq; cases hq)]; exact hq⟩, trivial⟩, by rw [upd_ne nCR.symm]; exact g.r⟩
def spPB : Sp := fun vs H Q _ => ∃ (R : Addr) (rs : List Int) (r : Int), vs = [.ref R, .int r] ∧ H R = some (.lst (rs.map V.int)) ∧ ZZ rs ∧ NF rs ∧ rs.length ≤ 2500 ∧
  ∀ H' p xs cs rs', Ch R H H' → H p = none → H' p = some (.lst xs) → PairsAt H' xs cs → H' R = some (.lst (rs'.map V.int)) → Run (push rs r) cs rs' → NF rs' → Q (.ref p) H'
theorem ok_PB {f fL fM fR : Addr} {fd fdL fdM fdR : FuncData} {k : Nat} (F : Fun K "put_behind" "put_behind" sPB f fd)
    (GL : FnOk P w K mg base CX0 (k + 2) fL fdL ["points", "reading"] (spLO K)) (gL : mg "is_left_out" = some (.ref fL)) (kL : PySem.W.keepIn K (.ref fL) = true) (bL : Binds K fdL ["points", "reading"] [])
    (GM : FnOk P w K mg base CX0 (k + 2) fM fdM ["points", "place"] (spMT K)) (gM : mg "_may_be_taken" = some (.ref fM)) (kM : PySem.W.keepIn K (.ref fM) = true) (bM : Binds K fdM ["points", "place"] [])
    (GR : FnOk P w K mg base CX0 (k + 2) fR fdR ["one", "other"] spRng) (gR : mg "range_of" = some (.ref fR)) (kR : PySem.W.keepIn K (.ref fR) = true) (bR : Binds K fdR ["one", "other"] [])
    (ml : mg "len" = none) : FnOk P w K mg base CX0 (k + 3) f fd ["rest", "reading"] spPB := by
  refine F.ok scPB (fun vs H Q E h => ?_) (fun cdv A outer s H vs Q E hr h => ?_)
  · obtain ⟨R, rs, r, rfl, _⟩ := h
    rfl
  · obtain ⟨R, rs0, r, rfl, eR, zz0, nf0, hlen, hq⟩ := h
    refine ⟨_, pss_cons (ps_if (pt_val (pe_call GL hr (by rfl) gL kL bL .nil pass0 (pa_cons (pv 0) (pa_cons (pv 1) pa_nil))))
          (pss_one (ps_expr (pe_bm0 PySem.F.plainAttrs_list PySem.F.slot_list_pop PySem.F.type_list_pop mt_pop (pv 0)))) pss_nil)
      (pss_cons (ps_expr (pe_bm PySem.F.plainAttrs_list PySem.F.slot_list_append PySem.F.type_list_append mt_append (pv 0) (pa_cons (pv 1) pa_nil)))
      (pss_cons (ps_set (i := 2) scPB.nd rfl (.inl rfl) (pe_lst pa_nil))
      (pss_cons (ps_while PassesOwn.never
            (PW.pt (pw_and (pt_cmpR op_gt (pe_callB call_len_seq (by rfl) ml PySem.boot_len (pa_cons (pv 0) pa_nil)) pe_int (nomark _)) (pw_and1 (pt_val (pe_call GM hr (by rfl) gM kM bM .nil pass0 (pa_cons (pv 0) (pa_cons (pe_op op_sub (pe_callB call_len_seq (by rfl) ml PySem.boot_len (pa_cons (pv 0) pa_nil)) pe_int) pa_nil)))))))
            (pss_cons (ps_expr (pe_bm PySem.F.plainAttrs_list PySem.F.slot_list_append PySem.F.type_list_append mt_append (pv 2) (pa_cons (pe_call GR hr (by rfl) gR kR bR .nil pass0 (pa_cons (pe_ix ix_list (pv 0) (pe_un un_neg pe_int) (fun _ _ => rfl)) (pa_cons (pe_ix ix_list (pv 0) (pe_un un_neg pe_int) (fun _ _ => rfl)) pa_nil))) pa_nil)))
              (pss_one (DS.ps_del31 (pv 0) (po_some (pe_un un_neg pe_int)) (po_some (pe_un un_neg pe_int))))))
      (pss_one (ps_ret (pv 2)))))), ?_⟩
    have zz1 : ZZ (push rs0 r) := zz_push r zz0
    have hp := push_lo rs0 r
    have hpl := push_len rs0 r
    refine ⟨.ref R, rfl, .int r, rfl, R, rs0, r, rfl, SqL.of eR, _, rfl, ?_⟩
    obtain ⟨m, nfm, em, hm1⟩ : ∃ m, NF m ∧ push rs0 r = m ++ [r] ∧ m = (if lo rs0 r = true then rs0.dropLast else rs0) := by
      refine ⟨_, ?_, hp, rfl⟩
      split
      · rcases List.eq_nil_or_concat rs0 with h | ⟨m1, d, h⟩
        · rw [h] at nf0 ⊢
          exact nf0
        · have h : rs0 = m1 ++ [d] := by rw [h]; simp
          rw [h] at nf0 ⊢
          rw [List.dropLast_concat]
          exact nf_prefix nf0
      · exact nf0
    rw [em] at zz1 hpl hq
    have hml : m.length ≤ 2500 := by
      rw [hm1]
      split
      · rw [List.length_dropLast]; omega
      · exact hlen
    have e1 : m.map V.int ++ [V.int r] = (m ++ [r]).map V.int := by rw [List.map_append]; rfl
    have start : ∀ C, (upd H R (.lst ((m ++ [r]).map V.int))) C = none → Bhd H C R [] [] (m ++ [r]) (upd (upd H R (.lst ((m ++ [r]).map V.int))) C (.lst [])) ∧ C ≠ R ∧ H C = none := by
      intro C nC
      have nCR : C ≠ R := fun z => by rw [z, upd_same] at nC; cases nC
      have nC0 : H C = none := by rw [upd_ne nCR] at nC; exact nC
      refine ⟨⟨.again nC0 .put, upd_same, trivial, by rw [upd_ne nCR.symm, upd_same]⟩, nCR, nC0⟩
    cases hl : lo rs0 r
    · rw [hl, if_neg (by decide)] at hm1
      subst hm1
      refine iteF ?_
      refine ⟨.ref R, rfl, .inl ⟨rfl, _, SqL.of eR⟩, .int r, rfl, R, _, _, rfl, rfl, eR, by rw [List.length_map]; exact small3000 (by omega), ?_⟩
      rw [e1]
      refine ⟨Nat.zero_le _, fun C nC => ?_⟩
      obtain ⟨g1, nCR, nC0⟩ := start C nC
      generalize upd (upd H R (.lst ((m ++ [r]).map V.int))) C (.lst []) = Hs at g1 ⊢
      refine ⟨fun n σ Hx => ∃ (xs : List V) (cs : List (Int × Int)) (mm : List Int), n = mm.length ∧ σ = [some (.ref R), some (.int r), some (.ref C)] ∧ Bhd H C R xs cs (mm ++ [r]) Hx ∧ Run (m ++ [r]) cs (mm ++ [r]) ∧ NF mm,
        ⟨_, [], [], m, rfl, rfl, g1, .nil _, nfm⟩, ?_⟩
      clear g1
      rintro n σ Hx ⟨xs, cs, mm, rfl, rfl, g, run, nf⟩
      have hrl := run.len
      simp only [List.length_append, List.length_singleton] at hrl
      have zzm := run.zz zz1
      have hm : ((mm ++ [r]).map V.int).length = mm.length + 1 := by simp
      refine ⟨.ref R, rfl, R, _, rfl, .inl (SqL.of g.r), _, 3, rfl, rfl, _, rfl, ?_⟩
      by_cases h3 : 3 ≤ mm.length
      · rw [show decide ((((mm ++ [r]).map V.int).length : Int) > 3) = true from decide_eq_true (by rw [hm]; omega)]
        obtain ⟨pre, b, c, d, rfl⟩ := last3 h3
        have hml : (pre ++ [b, c, d]).length = pre.length + 3 := by simp
        have el : pre ++ [b, c, d] ++ [r] = pre ++ b :: c :: d :: r :: [] := by simp
        have q0 : (pre ++ [b, c, d] ++ [r])[pre.length]? = some b := by rw [el, List.getElem?_append_right (by omega)]; simp
        have q1 : (pre ++ [b, c, d] ++ [r])[pre.length + 1]? = some c := by rw [el, List.getElem?_append_right (by omega)]; simp
        have q2 : (pre ++ [b, c, d] ++ [r])[pre.length + 2]? = some d := by rw [el, List.getElem?_append_right (by omega)]; simp
        have q3 : (pre ++ [b, c, d] ++ [r])[pre.length + 3]? = some r := by rw [el, List.getElem?_append_right (by omega)]; simp
        refine iteT ⟨.ref R, rfl, .ref R, rfl, R, _, rfl, .inl (SqL.of g.r), _, 3, rfl, rfl, R, pre ++ [b, c, d] ++ [r], pre.length, _, b, c, d, r, rfl, by rw [hm, hml]; omega, .inl (SqL.of g.r), zzm, q0, q1, q2, q3, fun H2 s2 => ⟨_, rfl, ?_⟩⟩
        have g2 := g.same s2
        rw [taken_get q0 q1 q2 q3]
        by_cases tk : Taken b c d r
        · rw [decide_eq_true tk]
          refine iteT ⟨fun σ Hx => ∃ m', m' < (pre ++ [b, c, d]).length ∧ ∃ (xs : List V) (cs : List (Int × Int)) (mm : List Int), m' = mm.length ∧ σ = [some (.ref R), some (.int r), some (.ref C)] ∧ Bhd H C R xs cs (mm ++ [r]) Hx ∧ Run (m ++ [r]) cs (mm ++ [r]) ∧ NF mm, fun _ _ z => z, ?_⟩
          have eR : H2 R = some (.lst ((pre ++ [b]).map V.int ++ [V.int c, V.int d, V.int r])) := by
            rw [g2.r]
            simp [List.map_append]
          refine ⟨.ref C, rfl, .inl ⟨rfl, _, SqL.of g2.c⟩, .ref R, rfl, 3, rfl, R, _, -3, .int c, rfl, rfl, SqL.of eR, atI_last3 _ _ _ _, .ref R, rfl, 2, rfl, R, _, -2, .int d, rfl, rfl, SqL.of eR, atI_last2' _ _ _ _, c, d, rfl, fun q nq => ?_⟩
          have s3 := same_new (o := .tup [.int (rg c d).1, .int (rg c d).2]) nq
          have g3 := (g2.same s3).cyc nC0 nCR (upd_same (H := H2) (a := q) (o := .tup [.int (rg c d).1, .int (rg c d).2]))
          have hxl : xs.length ≤ 2500 := by rw [g2.pa.length]; omega
          refine ⟨C, xs, .ref q, rfl, rfl, s3 _ _ g2.c, small3000 (by omega), ?_⟩
          have eR3 : (upd (upd H2 q (.tup [.int (rg c d).1, .int (rg c d).2])) C (.lst (xs ++ [.ref q]))) R = some (.lst ((pre ++ [b]).map V.int ++ [V.int c, V.int d, V.int r])) := by
            rw [upd_ne nCR.symm]
            exact s3 _ _ eR
          refine ⟨.ref R, rfl, 3, rfl, _, rfl, 1, rfl, _, rfl, rfl, rfl, R, (pre ++ [b]).map V.int, .int c, .int d, .int r, rfl, eR3, ?_⟩
          have g4 := g3.rest nCR (pre ++ [b] ++ [r])
          have e5 : (pre ++ [b]).map V.int ++ [V.int r] = (pre ++ [b] ++ [r]).map V.int := by simp [List.map_append]
          rw [e5]
          refine ⟨(pre ++ [b]).length, by simp, _, _, pre ++ [b], rfl, rfl, g4, ?_, nf_prefix (l := [c, d]) (by simpa using nf)⟩
          refine run.snoc ?_
          rw [el, List.append_assoc]
          exact (Step.here tk).prefix pre
        · rw [decide_eq_false tk]
          refine iteF ?_
          refine ⟨.ref C, rfl, hq _ C xs cs _ g2.ch nC0 g2.c g2.pa g2.r run (nf_push nf fun pre' b' c' d' e => ?_)⟩
          have e6 : pre' ++ [b', c', d', r] = (pre' ++ [b', c', d']) ++ [r] := by simp
          rw [e6] at e
          obtain ⟨e7, _⟩ := List.append_inj' e rfl
          obtain ⟨_, e8⟩ := List.append_inj' e7 rfl
          injection e8 with h1 h2
          injection h2 with h2 h3
          injection h3 with h3 _
          subst h1 h2 h3
          exact tk
      · rw [show decide ((((mm ++ [r]).map V.int).length : Int) > 3) = false from decide_eq_false (by rw [hm]; omega)]
        refine iteF ?_
        refine iteF ?_
        refine ⟨.ref C, rfl, hq _ C xs cs _ g.ch nC0 g.c g.pa g.r run (nf_push nf fun pre' b' c' d' e => ?_)⟩
        have : (mm ++ [r]).length = (pre' ++ [b', c', d', r]).length := by rw [e]
        simp only [List.length_append, List.length_cons, List.length_nil] at this
        omega
    · rw [hl, if_pos rfl] at hm1
      obtain ⟨u, hu⟩ : ∃ u, rs0 = m ++ [u] := by
        rcases List.eq_nil_or_concat rs0 with h | ⟨m1, d, h⟩
        · rw [h] at hl; cases hl
        · refine ⟨d, ?_⟩
          rw [hm1, h]
          simp
      have eR2 : H R = some (.lst (m.map V.int ++ [V.int u])) := by rw [eR, hu]; simp
      refine iteT ⟨.ref R, rfl, .inl ⟨rfl, _, SqL.of eR⟩, R, m.map V.int ++ [V.int u], .int u, rfl, rfl, eR2, by simp, ?_⟩
      refine ⟨.ref R, rfl, .inl ⟨rfl, _, SqL.of upd_same⟩, .int r, rfl, R, m.map V.int, _, rfl, rfl, by rw [upd_same, List.dropLast_concat], by rw [List.length_map]; exact small3000 (by omega), ?_⟩
      rw [upd_upd, e1]
      refine ⟨Nat.zero_le _, fun C nC => ?_⟩
      obtain ⟨g1, nCR, nC0⟩ := start C nC
      generalize upd (upd H R (.lst ((m ++ [r]).map V.int))) C (.lst []) = Hs at g1 ⊢
      refine ⟨fun n σ Hx => ∃ (xs : List V) (cs : List (Int × Int)) (mm : List Int), n = mm.length ∧ σ = [some (.ref R), some (.int r), some (.ref C)] ∧ Bhd H C R xs cs (mm ++ [r]) Hx ∧ Run (m ++ [r]) cs (mm ++ [r]) ∧ NF mm,
        ⟨_, [], [], m, rfl, rfl, g1, .nil _, nfm⟩, ?_⟩
      clear g1
      rintro n σ Hx ⟨xs, cs, mm, rfl, rfl, g, run, nf⟩
      have hrl := run.len
      simp only [List.length_append, List.length_singleton] at hrl
      have zzm := run.zz zz1
      have hm : ((mm ++ [r]).map V.int).length = mm.length + 1 := by simp
      refine ⟨.ref R, rfl, R, _, rfl, .inl (SqL.of g.r), _, 3, rfl, rfl, _, rfl, ?_⟩
      by_cases h3 : 3 ≤ mm.length
      · rw [show decide ((((mm ++ [r]).map V.int).length : Int) > 3) = true from decide_eq_true (by rw [hm]; omega)]
        obtain ⟨pre, b, c, d, rfl⟩ := last3 h3
        have hml : (pre ++ [b, c, d]).length = pre.length + 3 := by simp
        have el : pre ++ [b, c, d] ++ [r] = pre ++ b :: c :: d :: r :: [] := by simp
        have q0 : (pre ++ [b, c, d] ++ [r])[pre.length]? = some b := by rw [el, List.getElem?_append_right (by omega)]; simp
        have q1 : (pre ++ [b, c, d] ++ [r])[pre.length + 1]? = some c := by rw [el, List.getElem?_append_right (by omega)]; simp
        have q2 : (pre ++ [b, c, d] ++ [r])[pre.length + 2]? = some d := by rw [el, List.getElem?_append_right (by omega)]; simp
        have q3 : (pre ++ [b, c, d] ++ [r])[pre.length + 3]? = some r := by rw [el, List.getElem?_append_right (by omega)]; simp
        refine iteT ⟨.ref R, rfl, .ref R, rfl, R, _, rfl, .inl (SqL.of g.r), _, 3, rfl, rfl, R, pre ++ [b, c, d] ++ [r], pre.length, _, b, c, d, r, rfl, by rw [hm, hml]; omega, .inl (SqL.of g.r), zzm, q0, q1, q2, q3, fun H2 s2 => ⟨_, rfl, ?_⟩⟩
        have g2 := g.same s2
        rw [taken_get q0 q1 q2 q3]
        by_cases tk : Taken b c d r
        · rw [decide_eq_true tk]
          refine iteT ⟨fun σ Hx => ∃ m', m' < (pre ++ [b, c, d]).length ∧ ∃ (xs : List V) (cs : List (Int × Int)) (mm : List Int), m' = mm.length ∧ σ = [some (.ref R), some (.int r), some (.ref C)] ∧ Bhd H C R xs cs (mm ++ [r]) Hx ∧ Run (m ++ [r]) cs (mm ++ [r]) ∧ NF mm, fun _ _ z => z, ?_⟩
          have eR : H2 R = some (.lst ((pre ++ [b]).map V.int ++ [V.int c, V.int d, V.int r])) := by
            rw [g2.r]
            simp [List.map_append]
          refine ⟨.ref C, rfl, .inl ⟨rfl, _, SqL.of g2.c⟩, .ref R, rfl, 3, rfl, R, _, -3, .int c, rfl, rfl, SqL.of eR, atI_last3 _ _ _ _, .ref R, rfl, 2, rfl, R, _, -2, .int d, rfl, rfl, SqL.of eR, atI_last2' _ _ _ _, c, d, rfl, fun q nq => ?_⟩
          have s3 := same_new (o := .tup [.int (rg c d).1, .int (rg c d).2]) nq
          have g3 := (g2.same s3).cyc nC0 nCR (upd_same (H := H2) (a := q) (o := .tup [.int (rg c d).1, .int (rg c d).2]))
          have hxl : xs.length ≤ 2500 := by rw [g2.pa.length]; omega
          refine ⟨C, xs, .ref q, rfl, rfl, s3 _ _ g2.c, small3000 (by omega), ?_⟩
          have eR3 : (upd (upd H2 q (.tup [.int (rg c d).1, .int (rg c d).2])) C (.lst (xs ++ [.ref q]))) R = some (.lst ((pre ++ [b]).map V.int ++ [V.int c, V.int d, V.int r])) := by
            rw [upd_ne nCR.symm]
            exact s3 _ _ eR
          refine ⟨.ref R, rfl, 3, rfl, _, rfl, 1, rfl, _, rfl, rfl, rfl, R, (pre ++ [b]).map V.int, .int c, .int d, .int r, rfl, eR3, ?_⟩
          have g4 := g3.rest nCR (pre ++ [b] ++ [r])
          have e5 : (pre ++ [b]).map V.int ++ [V.int r] = (pre ++ [b] ++ [r]).map V.int := by simp [List.map_append]
          rw [e5]
          refine ⟨(pre ++ [b]).length, by simp, _, _, pre ++ [b], rfl, rfl, g4, ?_, nf_prefix (l := [c, d]) (by simpa using nf)⟩
          refine run.snoc ?_
          rw [el, List.append_assoc]
          exact (Step.here tk).prefix pre
        · rw [decide_eq_false tk]
          refine iteF ?_
          refine ⟨.ref C, rfl, hq _ C xs cs _ g2.ch nC0 g2.c g2.pa g2.r run (nf_push nf fun pre' b' c' d' e => ?_)⟩
          have e6 : pre' ++ [b', c', d', r] = (pre' ++ [b', c', d']) ++ [r] := by simp
          rw [e6] at e
          obtain ⟨e7, _⟩ := List.append_inj' e rfl
          obtain ⟨_, e8⟩ := List.append_inj' e7 rfl
          injection e8 with h1 h2
          injection h2 with h2 h3
          injection h3 with h3 _
          subst h1 h2 h3
          exact tk
      · rw [show decide ((((mm ++ [r]).map V.int).length : Int) > 3) = false from decide_eq_false (by rw [hm]; omega)]
        refine iteF ?_
        refine iteF ?_
        refine ⟨.ref C, rfl, hq _ C xs cs _ g.ch nC0 g.c g.pa g.r run (nf_push nf fun pre' b' c' d' e => ?_)⟩
        have : (mm ++ [r]).length = (pre' ++ [b', c', d', r]).length := by rw [e]
        simp only [List.length_append, List.length_cons, List.length_nil] at this
        omega
/-- what _counted holds -/
structure Stk (H : Hp) (C R : Addr) (xs : List V) (cs : List (Int × Int)) (rs : List Int) (Hx : Hp) : Prop where
  sm : Same H Hx
  c : Hx C = some (.lst xs)
  pa : PairsAt Hx xs cs
  r : Hx R = some (.lst (rs.map V.int))
def spCoL (K : PySem.W.Frag) : Sp := fun vs H Q _ => ∃ (a : Addr) (ns : List Int), vs = [.ref a] ∧ SqL K H a (ns.map V.int) ∧ ns.length ≤ 2500 ∧
  ∀ H' p c r xs cs rs, Same H H' → H p = none → H' p = some (.tup [.ref c, .ref r]) → H' c = some (.lst xs) → PairsAt H' xs cs → H' r = some (.lst (rs.map V.int)) → Run (tp ns) cs rs → NF rs → Q (.ref p) H'
def spCoT (K : PySem.W.Frag) : Sp := fun vs H Q _ => ∃ (a : Addr) (ns : List Int), vs = [.ref a] ∧ SqT K H a (ns.map V.int) ∧ ns.length ≤ 2500 ∧
  ∀ H' p c r xs cs rs, Same H H' → H p = none → H' p = some (.tup [.ref c, .ref r]) → H' c = some (.lst xs) → PairsAt H' xs cs → H' r = some (.lst (rs.map V.int)) → Run (tp ns) cs rs → NF rs → Q (.ref p) H'
theorem ok_Col {f fB : Addr} {fd fdB : FuncData} {k : Nat} (F : Fun K "_counted" "_counted" sCo f fd)
    (GB : FnOk P w K mg base CX0 (k + 3) fB fdB ["rest", "reading"] spPB) (gB : mg "put_behind" = some (.ref fB)) (kB : PySem.W.keepIn K (.ref fB) = true) (bB : Binds K fdB ["rest", "reading"] []) :
    FnOk P w K mg base CX0 (k + 4) f fd ["load"] (spCoL K) := by
  refine F.ok scCo (fun vs H Q E h => ?_) (fun cdv A outer s H vs Q E hr h => ?_)
  · obtain ⟨a, ns, rfl, _⟩ := h
    rfl
  · obtain ⟨a, ns, rfl, hS, hlen, hq⟩ := h
    refine ⟨_, pss_cons (ps_par (i := 1) (j := 2) (by rfl) scCo.nd rfl rfl (by decide) rfl rfl (pa_cons (pe_lst pa_nil) (pa_cons (pe_lst pa_nil) pa_nil)) (by rfl))
      (pss_cons (ps_for PassesOwn.never rfl (pi_list (pv 0)) (pg_name (i := 3) scCo.nd rfl (.inl rfl))
        (pss_one (ps_expr (pe_bm PySem.F.plainAttrs_list PySem.F.slot_list_extend PySem.F.type_list_extend mt_extend (pv 1) (pa_cons (pe_call GB hr (by rfl) gB kB bB .nil pass0 (pa_cons (pv 2) (pa_cons (pv 3) pa_nil))) pa_nil)))))
      (pss_one (ps_ret (pe_tup (pa_cons (pv 1) (pa_cons (pv 2) pa_nil)))))), ?_⟩
    refine ⟨Nat.zero_le _, fun C nC => ⟨Nat.zero_le _, fun R nR => ⟨.ref C, .ref R, rfl, ?_⟩⟩⟩
    have nCR : C ≠ R := fun z => by rw [← z, upd_same] at nR; cases nR
    have nR0 : H R = none := (same_new nC).free nR
    have sm0 : Same H (upd (upd H C (.lst [])) R (.lst [])) := (same_new nC).trans (same_new nR)
    have eC0 : (upd (upd H C (.lst [])) R (.lst [])) C = some (.lst []) := by rw [upd_ne nCR, upd_same]
    have eR0 : (upd (upd H C (.lst [])) R (.lst [])) R = some (.lst []) := upd_same
    generalize upd (upd H C (.lst [])) R (.lst []) = H0 at sm0 eC0 eR0 ⊢
    have hts : ∀ i, tp (ns.take i) = tp (ns.take i) := fun _ => rfl
    refine ⟨.ref a, rfl, a, rfl, ⟨_, sm0.seq hS⟩, for_list (K := K) (a := a) (xs := ns.map V.int) (fun i σ Hx => ∃ (xs : List V) (cs : List (Int × Int)) (rs : List Int) (r3 : Option V), σ = [some (.ref a), some (.ref C), some (.ref R), r3] ∧
      Stk H C R xs cs rs Hx ∧ Run (tp (ns.take i)) cs rs ∧ NF rs) ?_ ?_ ?_ ?_⟩
    · exact ⟨[], [], [], none, rfl, ⟨sm0, eC0, trivial, eR0⟩, .nil _, fun c q s => by have := s.len; simp at this⟩
    · rintro i σ Hx _ ⟨xs, cs, rs, r3, rfl, g, _⟩
      exact g.sm.seq hS
    · rintro i x σ Hx hx ⟨xs, cs, rs, r3, rfl, g, run, nf⟩
      obtain ⟨r, hr2, rfl⟩ := int_at hx
      have hin : i < ns.length := (List.getElem?_eq_some_iff.mp hr2).1
      have hrl := run.len
      have htl := tp_len (ns.take i)
      rw [List.length_take] at htl
      have zz := run.zz (tp_zz (ns.take i))
      refine ⟨.ref C, rfl, .inl ⟨rfl, _, SqL.of g.c⟩, .ref R, rfl, .int r, rfl, R, rs, r, rfl, g.r, zz, nf, by omega, fun H2 p ys cs2 rs2 ch np ep pa2 eR2 run2 nf2 => ?_⟩
      have eC2 : H2 C = some (.lst xs) := ch _ _ nCR g.c
      have npC : p ≠ C := fun z => by rw [z, g.c] at np; cases np
      have npR : p ≠ R := fun z => by rw [z, g.r] at np; cases np
      have sm2 : Same H H2 := fun b o e => ch b o (ne_of_none e nR0) (g.sm b o e)
      have run3 := stream hr2 run run2
      have hrl3 := run3.len
      have htl3 := tp_len (ns.take (i + 1))
      rw [List.length_take] at htl3
      have hxl := g.pa.length
      have hyl := pa2.length
      rw [List.length_append] at hrl3
      refine ⟨C, p, xs, ys, rfl, rfl, eC2, ep, Nat.le_of_lt (small3000 (by omega)), _, cs ++ cs2, rs2, _, rfl, ⟨same_again nC sm2, upd_same, ?_, by rw [upd_ne nCR.symm]; exact eR2⟩, run3, nf2⟩
      exact PairsAt.append (pairs_upd eC2 (ch_pairs ch g.r g.pa)) (pairs_upd eC2 pa2)
    · rintro σ Hx ⟨xs, cs, rs, r3, rfl, g, run, nf⟩
      have et2 : ns.take (ns.map V.int).length = ns := by rw [List.length_map]; exact List.take_length
      rw [et2] at run
      refine ⟨.ref C, rfl, .ref R, rfl, by show 2 ≤ sizeLine; decide, fun p np => ?_⟩
      have sp := same_new (o := .tup [.ref C, .ref R]) np
      exact hq _ p C R xs cs rs (g.sm.trans sp) (g.sm.free np) upd_same (sp _ _ g.c) (g.pa.same sp) (sp _ _ g.r) run nf
theorem ok_Cot {f fB : Addr} {fd fdB : FuncData} {k : Nat} (F : Fun K "_counted" "_counted" sCo f fd)
    (GB : FnOk P w K mg base CX0 (k + 3) fB fdB ["rest", "reading"] spPB) (gB : mg "put_behind" = some (.ref fB)) (kB : PySem.W.keepIn K (.ref fB) = true) (bB : Binds K fdB ["rest", "reading"] []) :
    FnOk P w K mg base CX0 (k + 4) f fd ["load"] (spCoT K) := by
  refine F.ok scCo (fun vs H Q E h => ?_) (fun cdv A outer s H vs Q E hr h => ?_)
  · obtain ⟨a, ns, rfl, _⟩ := h
    rfl
  · obtain ⟨a, ns, rfl, hS, hlen, hq⟩ := h
    refine ⟨_, pss_cons (ps_par (i := 1) (j := 2) (by rfl) scCo.nd rfl rfl (by decide) rfl rfl (pa_cons (pe_lst pa_nil) (pa_cons (pe_lst pa_nil) pa_nil)) (by rfl))
      (pss_cons (ps_for PassesOwn.never rfl (pi_tup (pv 0)) (pg_name (i := 3) scCo.nd rfl (.inl rfl))
        (pss_one (ps_expr (pe_bm PySem.F.plainAttrs_list PySem.F.slot_list_extend PySem.F.type_list_extend mt_extend (pv 1) (pa_cons (pe_call GB hr (by rfl) gB kB bB .nil pass0 (pa_cons (pv 2) (pa_cons (pv 3) pa_nil))) pa_nil)))))
      (pss_one (ps_ret (pe_tup (pa_cons (pv 1) (pa_cons (pv 2) pa_nil)))))), ?_⟩
    refine ⟨Nat.zero_le _, fun C nC => ⟨Nat.zero_le _, fun R nR => ⟨.ref C, .ref R, rfl, ?_⟩⟩⟩
    have nCR : C ≠ R := fun z => by rw [← z, upd_same] at nR; cases nR
    have nR0 : H R = none := (same_new nC).free nR
    have sm0 : Same H (upd (upd H C (.lst [])) R (.lst [])) := (same_new nC).trans (same_new nR)
    have eC0 : (upd (upd H C (.lst [])) R (.lst [])) C = some (.lst []) := by rw [upd_ne nCR, upd_same]
    have eR0 : (upd (upd H C (.lst [])) R (.lst [])) R = some (.lst []) := upd_same
    generalize upd (upd H C (.lst [])) R (.lst []) = H0 at sm0 eC0 eR0 ⊢
    have hts : ∀ i, tp (ns.take i) = tp (ns.take i) := fun _ => rfl
    refine ⟨.ref a, rfl, a, rfl, ⟨_, SqT_same sm0 hS⟩, for_tup (K := K) (a := a) (xs := ns.map V.int) (fun i σ Hx => ∃ (xs : List V) (cs : List (Int × Int)) (rs : List Int) (r3 : Option V), σ = [some (.ref a), some (.ref C), some (.ref R), r3] ∧
      Stk H C R xs cs rs Hx ∧ Run (tp (ns.take i)) cs rs ∧ NF rs) ?_ ?_ ?_ ?_⟩
    · exact ⟨[], [], [], none, rfl, ⟨sm0, eC0, trivial, eR0⟩, .nil _, fun c q s => by have := s.len; simp at this⟩
    · rintro i σ Hx _ ⟨xs, cs, rs, r3, rfl, g, _⟩
      exact SqT_same g.sm hS
    · rintro i x σ Hx hx ⟨xs, cs, rs, r3, rfl, g, run, nf⟩
      obtain ⟨r, hr2, rfl⟩ := int_at hx
      have hin : i < ns.length := (List.getElem?_eq_some_iff.mp hr2).1
      have hrl := run.len
      have htl := tp_len (ns.take i)
      rw [List.length_take] at htl
      have zz := run.zz (tp_zz (ns.take i))
      refine ⟨.ref C, rfl, .inl ⟨rfl, _, SqL.of g.c⟩, .ref R, rfl, .int r, rfl, R, rs, r, rfl, g.r, zz, nf, by omega, fun H2 p ys cs2 rs2 ch np ep pa2 eR2 run2 nf2 => ?_⟩
      have eC2 : H2 C = some (.lst xs) := ch _ _ nCR g.c
      have npC : p ≠ C := fun z => by rw [z, g.c] at np; cases np
      have npR : p ≠ R := fun z => by rw [z, g.r] at np; cases np
      have sm2 : Same H H2 := fun b o e => ch b o (ne_of_none e nR0) (g.sm b o e)
      have run3 := stream hr2 run run2
      have hrl3 := run3.len
      have htl3 := tp_len (ns.take (i + 1))
      rw [List.length_take] at htl3
      have hxl := g.pa.length
      have hyl := pa2.length
      rw [List.length_append] at hrl3
      refine ⟨C, p, xs, ys, rfl, rfl, eC2, ep, Nat.le_of_lt (small3000 (by omega)), _, cs ++ cs2, rs2, _, rfl, ⟨same_again nC sm2, upd_same, ?_, by rw [upd_ne nCR.symm]; exact eR2⟩, run3, nf2⟩
      exact PairsAt.append (pairs_upd eC2 (ch_pairs ch g.r g.pa)) (pairs_upd eC2 pa2)
    · rintro σ Hx ⟨xs, cs, rs, r3, rfl, g, run, nf⟩
      have et2 : ns.take (ns.map V.int).length = ns := by rw [List.length_map]; exact List.take_length
      rw [et2] at run
      refine ⟨.ref C, rfl, .ref R, rfl, by show 2 ≤ sizeLine; decide, fun p np => ?_⟩
      have sp := same_new (o := .tup [.ref C, .ref R]) np
      exact hq _ p C R xs cs rs (g.sm.trans sp) (g.sm.free np) upd_same (sp _ _ g.c) (g.pa.same sp) (sp _ _ g.r) run nf
def spCo (K : PySem.W.Frag) : Sp := fun vs H Q _ => ∃ (a : Addr) (ns : List Int), vs = [.ref a] ∧ Sq K H a (ns.map V.int) ∧ ns.length ≤ 2500 ∧
  ∀ H' p c r xs cs rs, Same H H' → H p = none → H' p = some (.tup [.ref c, .ref r]) → H' c = some (.lst xs) → PairsAt H' xs cs → H' r = some (.lst (rs.map V.int)) → Run (tp ns) cs rs → NF rs → Q (.ref p) H'
theorem ok_Co {f fB : Addr} {fd fdB : FuncData} {k : Nat} (F : Fun K "_counted" "_counted" sCo f fd)
    (GB : FnOk P w K mg base CX0 (k + 3) fB fdB ["rest", "reading"] spPB) (gB : mg "put_behind" = some (.ref fB)) (kB : PySem.W.keepIn K (.ref fB) = true) (bB : Binds K fdB ["rest", "reading"] []) :
    FnOk P w K mg base CX0 (k + 4) f fd ["load"] (spCo K) :=
  (both (ok_Col F GB gB kB bB) (ok_Cot F GB gB kB bB)).imp fun vs H Q E ⟨a, ns, e, hs, hl, q⟩ => hs.elim (fun z => .inl ⟨a, ns, e, z, hl, q⟩) (fun z => .inr ⟨a, ns, e, z, hl, q⟩)
end
end QG

/-! values of many kinds, as data: none, bools, ints, texts, lists, tuples, the empty dict -/
namespace DV
open PySem PySem.Spec PyProof.Rows L2 KA KD PH
mutual
inductive Dv (f : Addr) (H : Hp) : V → PyData → Prop
  | non : Dv f H .non .none
  | bl (b : Bool) : Dv f H (.bl b) (.bool b)
  | int (i : Int) : Dv f H (.int i) (.int i)
  | str (x : Str) : Dv f H (.str x) (.str x)
  | lst {a : Addr} {xs : List V} {ds : List PyData} : a ≠ f → H a = some (.lst xs) → DvAll f H xs ds → Dv f H (.ref a) (.list ds)
  | tup {a : Addr} {xs : List V} {ds : List PyData} : a ≠ f → H a = some (.tup xs) → DvAll f H xs ds → Dv f H (.ref a) (.tuple ds)
  | dic {a : Addr} : a ≠ f → H a = some (.dT []) → Dv f H (.ref a) (.dict [])
inductive DvAll (f : Addr) (H : Hp) : List V → List PyData → Prop
  | nil : DvAll f H [] []
  | cons {v : V} {vs : List V} {d : PyData} {ds : List PyData} : Dv f H v d → DvAll f H vs ds → DvAll f H (v :: vs) (d :: ds)
end
mutual
theorem Dv.ch {f : Addr} {H H' : Hp} (c : Ch f H H') : ∀ (d : PyData) (v : V), Dv f H v d → Dv f H' v d
  | .none, _, h => by cases h; exact .non
  | .bool b, _, h => by cases h; exact .bl b
  | .int i, _, h => by cases h; exact .int i
  | .str x, _, h => by cases h; exact .str x
  | .list ds, _, h => by
    cases h with
    | lst n e a => exact .lst n (c _ _ n e) (DvAll.ch c ds _ a)
  | .tuple ds, _, h => by
    cases h with
    | tup n e a => exact .tup n (c _ _ n e) (DvAll.ch c ds _ a)
  | .dict kvs, _, h => by
    cases h with
    | dic n e => exact .dic n (c _ _ n e)
theorem DvAll.ch {f : Addr} {H H' : Hp} (c : Ch f H H') : ∀ (ds : List PyData) (vs : List V), DvAll f H vs ds → DvAll f H' vs ds
  | [], _, h => by cases h; exact .nil
  | d :: ds, _, h => by
    cases h with
    | cons h1 h2 => exact .cons (Dv.ch c d _ h1) (DvAll.ch c ds _ h2)
end
theorem Dv.same {f : Addr} {H H' : Hp} {d : PyData} {v : V} (h : Dv f H v d) (s : Same H H') : Dv f H' v d := h.ch (.of_same s) _ _
theorem DvAll.same {f : Addr} {H H' : Hp} {d : List PyData} {v : List V} (h : DvAll f H v d) (s : Same H H') : DvAll f H' v d := h.ch (.of_same s) _ _
theorem DvAll.length {f : Addr} {H : Hp} : ∀ {vs : List V} {ds : List PyData}, DvAll f H vs ds → vs.length = ds.length
  | _, _, .nil => rfl
  | _, _, .cons _ h => by rw [List.length_cons, List.length_cons, h.length]
theorem DvAll.at {f : Addr} {H : Hp} : ∀ {vs : List V} {ds : List PyData} {i : Nat} {v : V}, DvAll f H vs ds → vs[i]? = some v → ∃ d, ds[i]? = some d ∧ Dv f H v d
  | _, _, 0, _, .cons h _, e => ⟨_, rfl, by cases e; exact h⟩
  | _, _, i + 1, _, .cons _ h, e => h.at (i := i) e
theorem DvAll.app {f : Addr} {H : Hp} : ∀ {vs us : List V} {ds es : List PyData}, DvAll f H vs ds → DvAll f H us es → DvAll f H (vs ++ us) (ds ++ es)
  | _, _, _, _, .nil, h => h
  | _, _, _, _, .cons h1 h2, h => .cons h1 (h2.app h)
theorem DvAll.take {f : Addr} {H : Hp} : ∀ {vs : List V} {ds : List PyData} (n : Nat), DvAll f H vs ds → DvAll f H (vs.take n) (ds.take n)
  | _, _, 0, _ => .nil
  | _, _, n + 1, .nil => .nil
  | _, _, n + 1, .cons h1 h2 => .cons h1 (h2.take n)
theorem DvAll.drop {f : Addr} {H : Hp} : ∀ {vs : List V} {ds : List PyData} (n : Nat), DvAll f H vs ds → DvAll f H (vs.drop n) (ds.drop n)
  | _, _, 0, h => h
  | _, _, n + 1, .nil => .nil
  | _, _, n + 1, .cons h1 h2 => h2.drop n
theorem DvAll.rev {f : Addr} {H : Hp} : ∀ {vs : List V} {ds : List PyData}, DvAll f H vs ds → DvAll f H vs.reverse ds.reverse
  | _, _, .nil => .nil
  | _, _, .cons h1 h2 => by rw [List.reverse_cons, List.reverse_cons]; exact h2.rev.app (.cons h1 .nil)
theorem dv_ints {f : Addr} {H : Hp} : ∀ ns : List Int, DvAll f H (ns.map V.int) (dInts ns)
  | [] => .nil
  | n :: ns => .cons (.int n) (dv_ints ns)
theorem dv_pairs {f : Addr} {H : Hp} (hf : ∃ l, H f = some (.lst l)) : ∀ {xs : List V} {rs : List (Int × Int)}, PairsAt H xs rs → DvAll f H xs (dPairs rs)
  | [], [], _ => .nil
  | x :: xs, r :: rs, ⟨⟨p, h1, h2⟩, h3⟩ => by
    subst h1
    exact .cons (.tup (fun z => by obtain ⟨l, hf⟩ := hf; rw [z, hf] at h2; cases h2) h2 (.cons (.int _) (.cons (.int _) .nil))) (dv_pairs hf h3)
  | [], _ :: _, h => h.elim
  | _ :: _, [], h => h.elim
mutual
theorem Dv.dp {f : Addr} {H : Hp} {K : PySem.W.Frag} : ∀ (d : PyData) (v : V), Dv f H v d → d.canLay0 = true → Dp K H v d
  | .none, _, h, _ => by cases h; exact .non
  | .bool b, _, h, _ => by cases h; exact .bl b
  | .int i, _, h, _ => by cases h; exact .int i
  | .str x, _, h, _ => by cases h; exact .str x
  | .list ds, _, h, l => by
    cases h with
    | lst n e a => exact .lst (SqL.of e) (DvAll.dp ds _ a (by simpa only [PyData.canLay0] using l))
  | .tuple ds, _, h, l => by
    cases h with
    | tup n e a => exact .tup (SqT.of e) (DvAll.dp ds _ a (by simpa only [PyData.canLay0] using l))
  | .dict kvs, _, h, l => by simp [PyData.canLay0] at l
theorem DvAll.dp {f : Addr} {H : Hp} {K : PySem.W.Frag} : ∀ (ds : List PyData) (vs : List V), DvAll f H vs ds → PyData.canLayAll0 ds = true → DpAll K H vs ds
  | [], _, h, _ => by cases h; exact .nil
  | d :: ds, _, h, l => by
    cases h with
    | cons h1 h2 =>
      have l2 : d.canLay0 = true ∧ PyData.canLayAll0 ds = true := by simpa only [PyData.canLayAll0, Bool.and_eq_true] using l
      exact .cons (Dv.dp d _ h1 l2.1) (DvAll.dp ds _ h2 l2.2)
end
/-! ### their types -/
def tyS : PyData → String
  | .none => "NoneType" | .bool _ => "bool" | .int _ => "int" | .str _ => "str" | .list _ => "list" | .tuple _ => "tuple" | .dict _ => "dict"
theorem Dv.ty {f : Addr} {H : Hp} {K : PySem.W.Frag} {v : V} {d : PyData} (h : Dv f H v d) : TyX K H v (.type (tyS d)) := by
  cases h with
  | non => exact .base .non
  | bl b => exact .base (.bl b)
  | int i => exact .base (.int i)
  | str x => exact .base (.str x)
  | lst _ e _ => exact .base (.lst e)
  | tup _ e _ => exact .base (.tup e)
  | dic _ e => exact .base (.dT e)
def isI : PyData → Bool
  | .int _ => true | .bool _ => true | _ => false
def isB : PyData → Bool
  | .bool _ => true | _ => false
def isT : PyData → Bool
  | .tuple _ => true | _ => false
theorem kit_i {K : PySem.W.Frag} : ∀ d : PyData, PySem.W.kitOne K (.type (tyS d)) (.type "int") = some (isI d)
  | .none => kit_ty (show kitB "NoneType" "int" = some false by decide +kernel)
  | .bool _ => kit_ty (show kitB "bool" "int" = some true by decide +kernel)
  | .int _ => kit_ty (show kitB "int" "int" = some true by decide +kernel)
  | .str _ => kit_ty (show kitB "str" "int" = some false by decide +kernel)
  | .list _ => kit_ty (show kitB "list" "int" = some false by decide +kernel)
  | .tuple _ => kit_ty (show kitB "tuple" "int" = some false by decide +kernel)
  | .dict _ => kit_ty (show kitB "dict" "int" = some false by decide +kernel)
theorem kit_b {K : PySem.W.Frag} : ∀ d : PyData, PySem.W.kitOne K (.type (tyS d)) (.type "bool") = some (isB d)
  | .none => kit_ty (show kitB "NoneType" "bool" = some false by decide +kernel)
  | .bool _ => kit_ty (show kitB "bool" "bool" = some true by decide +kernel)
  | .int _ => kit_ty (show kitB "int" "bool" = some false by decide +kernel)
  | .str _ => kit_ty (show kitB "str" "bool" = some false by decide +kernel)
  | .list _ => kit_ty (show kitB "list" "bool" = some false by decide +kernel)
  | .tuple _ => kit_ty (show kitB "tuple" "bool" = some false by decide +kernel)
  | .dict _ => kit_ty (show kitB "dict" "bool" = some false by decide +kernel)
theorem kit_t {K : PySem.W.Frag} : ∀ d : PyData, PySem.W.kitOne K (.type (tyS d)) (.type "tuple") = some (isT d)
  | .none => kit_ty (show kitB "NoneType" "tuple" = some false by decide +kernel)
  | .bool _ => kit_ty (show kitB "bool" "tuple" = some false by decide +kernel)
  | .int _ => kit_ty (show kitB "int" "tuple" = some false by decide +kernel)
  | .str _ => kit_ty (show kitB "str" "tuple" = some false by decide +kernel)
  | .list _ => kit_ty (show kitB "list" "tuple" = some false by decide +kernel)
  | .tuple _ => kit_ty (show kitB "tuple" "tuple" = some true by decide +kernel)
  | .dict _ => kit_ty (show kitB "dict" "tuple" = some false by decide +kernel)
theorem isi_i {f : Addr} {H : Hp} {K : PySem.W.Frag} {v : V} {d : PyData} {Q : VK} (h : Dv f H v d) (q : Q (.bl (isI d)) H) : rIsi K [v, .ty "int"] H Q := ⟨v, .ty "int", _, .type "int", _, rfl, .ty "int", h.ty, kit_i d, q⟩
theorem isi_b {f : Addr} {H : Hp} {K : PySem.W.Frag} {v : V} {d : PyData} {Q : VK} (h : Dv f H v d) (q : Q (.bl (isB d)) H) : rIsi K [v, .ty "bool"] H Q := ⟨v, .ty "bool", _, .type "bool", _, rfl, .ty "bool", h.ty, kit_b d, q⟩
theorem isi_t {f : Addr} {H : Hp} {K : PySem.W.Frag} {v : V} {d : PyData} {Q : VK} (h : Dv f H v d) (q : Q (.bl (isT d)) H) : rIsi K [v, .ty "tuple"] H Q := ⟨v, .ty "tuple", _, .type "tuple", _, rfl, .ty "tuple", h.ty, kit_t d, q⟩
/-! ### repr -/
section
variable {X : Cx} {pins : List (Addr × Obj)} {σ : L2.St} {H : Hp} {s : Shared} {f : Addr}
mutual
theorem Dv.reads (I : Inv X pins σ H s) : ∀ (d : PyData) (v : V) (u : Value), Dv f H v d → RelV v u → ∃ as, Reads s.heap u d as ∧ (d = .dict [] → sysModules ∉ as)
  | .none, _, _, h, r => by
    cases h
    cases r
    exact ⟨_, Reads.none, fun z => nomatch z⟩
  | .bool b, _, _, h, r => by
    cases h
    cases r
    exact ⟨_, Reads.bool b, fun z => nomatch z⟩
  | .int i, _, _, h, r => by
    cases h
    obtain ⟨t, rfl⟩ := r
    exact ⟨_, Reads.int i t, fun z => nomatch z⟩
  | .str x, _, _, h, r => by
    cases h
    obtain ⟨t, rfl⟩ := r
    exact ⟨_, Reads.str x t, fun z => nomatch z⟩
  | .list ds, _, _, h, r => by
    cases h with
    | lst hn hs ha =>
      cases r
      obtain ⟨its, rv, ⟨o, n, ho, hc, _, hd⟩, _⟩ := I.list (SqL.of hs)
      obtain ⟨as, hr⟩ := DvAll.reads I ds _ its ha rv
      exact ⟨_, Reads.list ho hc hd hr, fun z => nomatch z⟩
  | .tuple ds, _, _, h, r => by
    cases h with
    | tup hn hs ha =>
      cases r
      obtain ⟨its, rv, ⟨o, ho, hc, n, hd⟩, _⟩ := I.tuple (SqT.of hs)
      obtain ⟨as, hr⟩ := DvAll.reads I ds _ its ha rv
      exact ⟨_, Reads.tuple ho hc hd hr, fun z => nomatch z⟩
  | .dict kvs, _, _, h, r => by
    cases h with
    | dic hn hs =>
      cases r
      obtain ⟨_, hd, xs, kt, o, es, ep, h1, h2, h3, h4, h5⟩ := (show ObjOk X.prog X.w H s.heap _ (.dT []) from I.hok _ _ hs)
      cases kt
      have e0 : es = #[] := by
        have : es.size = 0 := by simpa [Paired] using h4
        exact Array.eq_empty_of_size_eq_zero this
      subst e0
      refine ⟨_, Reads.dict h1 h2.1 h3 .nil .nil, fun _ z => ?_⟩
      simp only [List.append_nil, List.mem_singleton] at z
      rw [← z] at hd
      simp at hd
theorem DvAll.reads (I : Inv X pins σ H s) : ∀ (ds : List PyData) (vs : List V) (us : List Value), DvAll f H vs ds → Vals vs us → ∃ as, ReadsAll s.heap us ds as
  | [], _, _, h, r => by
    cases h
    cases r
    exact ⟨_, ReadsAll.nil⟩
  | d :: ds, _, _, h, r => by
    cases h with
    | cons h1 h2 =>
      cases r with
      | cons r1 r2 =>
        obtain ⟨as, q1, _⟩ := Dv.reads I d _ _ h1 r1
        obtain ⟨bs, q2⟩ := DvAll.reads I ds _ _ h2 r2
        exact ⟨_, ReadsAll.cons q1 q2⟩
end
theorem Dv.shows {prog : Program} {w : World} (I : Inv X pins σ H s) {d : PyData} {v : V} {u : Value} (h : Dv f H v d) (r : RelV v u) (hs : d.showable = true) (hd : d.hasDict = false ∨ d = .dict []) (hz : d.shown.length ≤ sizeLine) :
    ∃ as bs, Reads s.heap u d as ∧ ReadAtMost s.heap d.depth bs ∧ ReprK prog w bs s.heap d.depth u d.shown := by
  obtain ⟨as, rd, no⟩ := Dv.reads I d v u h r
  obtain ⟨bs, b1, b2⟩ := ReprK.of_reads (prog := prog) (w := w) rd hs (fun x => hd.elim (fun z => absurd x (by rw [z]; decide)) no) hz
  exact ⟨as, bs, rd, b1, b2⟩
end
/-! ### small data -/
structure It (d : PyData) : Prop where
  sh : d.showable = true
  le : d.leavesShort 13 = true
  de : d.depth ≤ 4
  we : d.weight ≤ 1000
  lay : d.canLay0 = true
structure Tp (d : PyData) : Prop where
  di : d.hasDict = false ∨ d = .dict []
  sh : d.showable = true
  le : d.leavesShort 13 = true
  de : d.depth ≤ 6
  we : d.weight ≤ 200000
theorem it_int {i : Int} (h : i.natAbs < 2 ^ 39) : It (.int i) :=
  ⟨show_int h, leaf_int h, by simp only [PyData.depth]; omega, by have := weight_int h; omega, rfl⟩
theorem it_all : ∀ {ds : List PyData}, (∀ d ∈ ds, It d) → PyData.showableAll ds = true ∧ PyData.leavesShortAll 13 ds = true ∧ PyData.depthAll ds ≤ 4 ∧ PyData.weightAll ds ≤ 1001 * ds.length ∧ PyData.canLayAll0 ds = true
  | [], _ => ⟨rfl, rfl, Nat.zero_le _, Nat.zero_le _, rfl⟩
  | d :: ds, h => by
    obtain ⟨a1, a2, a3, a4, a5⟩ := it_all fun x hx => h x (List.mem_cons_of_mem _ hx)
    obtain ⟨b1, b2, b3, b4, b5⟩ := h d List.mem_cons_self
    simp only [PyData.showableAll, PyData.leavesShortAll, PyData.depthAll, PyData.weightAll, PyData.canLayAll0, List.length_cons, a1, a2, a5, b1, b2, b5, Bool.and_self, true_and, and_true]
    omega
theorem it_pair {a b : Int} (h1 : a.natAbs < 2 ^ 39) (h2 : b.natAbs < 2 ^ 39) : It (.tuple [.int a, .int b]) := by
  have x := it_int h1
  have y := it_int h2
  have w1 := weight_int h1
  have w2 := weight_int h2
  refine ⟨?_, ?_, ?_, ?_, ?_⟩
  · simp only [PyData.showable, PyData.showableAll]
    have a1 := x.sh; have a2 := y.sh
    simp only [PyData.showable] at a1 a2
    rw [a1, a2]; rfl
  · simp only [PyData.leavesShort, PyData.leavesShortAll]
    have a1 := x.le; have a2 := y.le
    simp only [PyData.leavesShort] at a1 a2
    rw [a1, a2]; rfl
  · simp only [PyData.depth, PyData.depthAll]; omega
  · simp only [PyData.weight, PyData.weightAll] at w1 w2 ⊢
    omega
  · rfl
theorem tp_tup {ds : List PyData} (h : ∀ d ∈ ds, It d) (hl : ds.length ≤ 100) : Tp (.tuple ds) := by
  obtain ⟨a1, a2, a3, a4, a5⟩ := it_all h
  refine ⟨.inl (PyData.hasDict_of_canLay _ (by simp only [PyData.canLay0]; exact a5)), ?_, ?_, ?_, ?_⟩
  · simp only [PyData.showable]; exact a1
  · simp only [PyData.leavesShort]; exact a2
  · simp only [PyData.depth]; omega
  · simp only [PyData.weight]; omega
theorem tp_lst {ds : List PyData} (h : ∀ d ∈ ds, It d) (hl : ds.length ≤ 100) : Tp (.list ds) := by
  obtain ⟨a1, a2, a3, a4, a5⟩ := it_all h
  refine ⟨.inl (PyData.hasDict_of_canLay _ (by simp only [PyData.canLay0]; exact a5)), ?_, ?_, ?_, ?_⟩
  · simp only [PyData.showable]; exact a1
  · simp only [PyData.leavesShort]; exact a2
  · simp only [PyData.depth]; omega
  · simp only [PyData.weight]; omega
theorem tp_one {ds : List PyData} (h : ∀ d ∈ ds, It d) (hl : ds.length ≤ 100) : Tp (.tuple [.tuple ds]) := by
  obtain ⟨a1, a2, a3, a4, a5⟩ := it_all h
  refine ⟨.inl (PyData.hasDict_of_canLay _ (by simp only [PyData.canLay0, PyData.canLayAll0, a5, Bool.and_self])), ?_, ?_, ?_, ?_⟩
  · simp only [PyData.showable, PyData.showableAll, a1, Bool.and_self]
  · simp only [PyData.leavesShort, PyData.leavesShortAll, a2, Bool.and_self]
  · simp only [PyData.depth, PyData.depthAll]; omega
  · simp only [PyData.weight, PyData.weightAll]; omega
theorem tp_len {d : PyData} (h : Tp d) : d.shown.length ≤ sizeLine := PyData.shown_fits (B := 13) (by decide) (by decide) h.le (by have := h.we; omega)
theorem tp2_len {d e : PyData} (h : Tp d) (g : Tp e) : (PyData.list [d, e]).shown.length ≤ sizeLine := by
  refine PyData.shown_fits (B := 13) (by decide) (by decide) ?_ ?_
  · simp only [PyData.leavesShort, PyData.leavesShortAll, h.le, g.le, Bool.and_self]
  · have := h.we; have := g.we
    simp only [PyData.weight, PyData.weightAll]; omega
/-- repr of a list of two values -/
def rReprV : List V → Hp → VK → Prop := fun vs H Q => ∃ (f a : Addr) (v1 v2 : V) (d1 d2 : PyData), vs = [V.ref a] ∧ H a = some (.lst [v1, v2]) ∧ Dv f H v1 d1 ∧ Dv f H v2 d2 ∧ Tp d1 ∧ Tp d2 ∧ Q (.str (PyData.list [d1, d2]).shown) H
theorem cr_reprV {X : Cx} (hg : X.A.guards = some []) (hu : X.A.units + 100 < cLine) : CallR X (.builtin "repr") rReprV := by
  intro pins s σ H vs us Q I r h
  obtain ⟨f, a, v1, v2, d1, d2, rfl, ha, h1, h2, t1, t2, q⟩ := h
  rw [Vals.ref1 r]
  obtain ⟨its, rv, ⟨o, n, ho, hc, _, hd⟩, _⟩ := I.list (SqL.of (K := X.K) ha)
  cases rv with
  | cons r1 rv =>
    rename_i u1 us1
    cases rv with
    | cons r2 rv =>
      rename_i u2 us2
      cases rv
      obtain ⟨as1, b1, rd1, m1, k1⟩ := Dv.shows (prog := X.prog) (w := X.w) I h1 r1 t1.sh t1.di (tp_len t1)
      obtain ⟨as2, b2, rd2, m2, k2⟩ := Dv.shows (prog := X.prog) (w := X.w) I h2 r2 t2.sh t2.di (tp_len t2)
      have rd := Reads.list ho hc hd (ReadsAll.cons rd1 (ReadsAll.cons rd2 ReadsAll.nil))
      have hz := tp2_len t1 t2
      have z1 := t1.de
      have z2 := t2.de
      have mm : ReadAtMost s.heap (PyData.depthAll [d1, d2]) (b1 ++ b2) := (m1.mono (by simp only [PyData.depthAll]; omega)).append (m2.mono (by simp only [PyData.depthAll]; omega))
      have hna : a ∉ b1 ++ b2 := not_mem_of_deeper rd (by simp only [PyData.depth]; omega) mm
      have hk : ReprAllK X.prog X.w (b1 ++ b2) s.heap (PyData.depthAll [d1, d2]) [u1, u2] (PyData.shownAll [d1, d2]) := by
        simp only [PyData.shownAll]
        exact .cons ((k1.more fun b hb => List.mem_append_left _ hb).level_le (by simp only [PyData.depthAll]; omega)) (.cons ((k2.more fun b hb => List.mem_append_right _ hb).level_le (by simp only [PyData.depthAll]; omega)) .nil)
      have hz' : (listText (PyData.shownAll [d1, d2])).length ≤ sizeLine := by simpa only [PyData.shown] using hz
      refine call_repr_slot (by omega) ⟨o, ho, hc⟩ F.slot_list_repr.toG ?_
      refine call_list_reprK ho hc hd hna (by simpa using hk.length_eq) (fun i y e => hk.item i y (by simpa using e)) hg (fun b _ => Clear.nil b) (by show X.A.units + 1 + _ < cLine; simp only [PyData.depthAll]; omega) (fun _ _ e => e) ?_ hz'
      intro h' u tk k
      refine ⟨_, _, rfl, .str _, H, I.kept k, ⟨u, ?_⟩, q⟩
      simp only [PyData.shown]
/-! ### what is written -/
section
variable {X : Cx} {f : Addr} {e : Expr} {es : List Expr} {ds : List PyData} {d : PyData} {pos : Pos}
def teD (f : Addr) (d : PyData) : TE := fun _ H Q => FeedAt H f ∧ ∀ v H', Same H H' → Dv f H' v d → Q v H'
def tLits (f : Addr) : List PyData → TA
  | [] => tNil
  | d :: ds => tCons (teD f d) (tLits f ds)
theorem lits : ∀ (ds : List PyData) (σ : L2.St) (H : Hp) (Q : List V → Hp → Prop), FeedAt H f → (∀ vs H', Same H H' → DvAll f H' vs ds → Q vs H') → tLits f ds σ H Q
  | [], σ, H, Q, _, q => q [] H (Same.refl H) .nil
  | d :: ds, σ, H, Q, hf, q => ⟨hf, fun v H1 s1 dv => lits ds σ H1 _ (hf.same s1) fun vs H2 s2 da => q (v :: vs) H2 (s1.trans s2) (.cons (dv.same s2) da)⟩
theorem pe_D {t : TE} (h : PE X e t) (w : ∀ σ H Q, teD f d σ H Q → t σ H Q) : PE X e (teD f d) := ⟨fun pins s σ H Q I q => h.run pins s σ H Q I (w σ H Q q)⟩
theorem pa_nilD : PA X [] (tLits f []) := pa_nil
theorem pa_consD (ha : PE X e (teD f d)) (hr : PA X es (tLits f ds)) (hs : starEach (e :: es) X.env = (false, eval e X.env) :: starEach es X.env := by rfl) : PA X (e :: es) (tLits f (d :: ds)) := pa_cons ha hr hs
theorem pe_tupD {x1} (h : PA X es (tLits f ds)) (z : ds.length ≤ 100 := by decide) : PE X (.Tuple es x1 pos) (teD f (.tuple ds)) := pe_D (pe_tup h) fun σ H Q q => lits ds σ H _ q.1 fun vs H' s da =>
  ⟨Nat.le_of_lt (small3000 (show vs.length ≤ 3000 by rw [da.length]; omega)), fun p np => q.2 _ _ (s.trans (same_new np)) (.tup ((q.1.same s).ne np) upd_same (da.same (same_new np)))⟩
theorem pe_lstD {x1} (h : PA X es (tLits f ds)) (z : ds.length ≤ 100 := by decide) : PE X (.List es x1) (teD f (.list ds)) := pe_D (pe_lst h) fun σ H Q q => lits ds σ H _ q.1 fun vs H' s da =>
  ⟨Nat.le_of_lt (small3000 (show vs.length ≤ 3000 by rw [da.length]; omega)), fun p np => q.2 _ _ (s.trans (same_new np)) (.lst ((q.1.same s).ne np) upd_same (da.same (same_new np)))⟩
theorem pe_intD {i : Int} (h : PE X e (tC (.int i))) : PE X e (teD f (.int i)) := pe_D h fun σ H Q q => q.2 _ _ (Same.refl H) (.int i)
theorem pe_blD {b : Bool} (h : PE X e (tC (.bl b))) : PE X e (teD f (.bool b)) := pe_D h fun σ H Q q => q.2 _ _ (Same.refl H) (.bl b)
theorem pe_strD {x : Str} (h : PE X e (tC (.str x))) : PE X e (teD f (.str x)) := pe_D h fun σ H Q q => q.2 _ _ (Same.refl H) (.str x)
theorem pe_nonD (h : PE X e (tC .non)) : PE X e (teD f .none) := pe_D h fun σ H Q q => q.2 _ _ (Same.refl H) .non
theorem pe_dicD : PE X (.Dict [] [] pos) (teD f (.dict [])) := pe_D pe_dnewT fun σ H Q q p np => q.2 _ _ (same_new np) (.dic (q.1.ne np) upd_same)
end
end DV

/-! walks and items of what is a list or a tuple; keyword-only parameters -/
namespace GB
open PySem PySem.Spec PyProof.Rows L2 PH KA
section
variable {X : Cx} {tg l : Expr} {tl : TE}
def iBoth (K : PySem.W.Frag) (tl : TE) : TI := fun σ H R => tl σ H fun x H1 => ∃ a, x = .ref a ∧ (((∃ xs, SqL K H1 a xs) ∧ R (Itl K a) H1) ∨ ((∃ xs, SqT K H1 a xs) ∧ R (Itt K a) H1))
theorem pi_both (hl : PE X l tl) : PI X tg l (iBoth X.K tl) := by
  refine ⟨fun pins s σ H R I h => ?_⟩
  refine thn (hl.run pins s σ H _ I h) fun v s1 ⟨x, H1, I1, r1, q1⟩ => ?_
  obtain ⟨a, e, q⟩ := q1
  subst e
  cases r1
  rcases q with ⟨⟨xs, hq⟩, q⟩ | ⟨⟨xs, hq⟩, q⟩
  · obtain ⟨its, rv, p, hz⟩ := I1.list hq
    refine wpAny_pyIter_list p.isList ?_
    refine ⟨s1.heap.objs.size, [s1.heap.objs.size], _, _, H1, rfl, I1.kept (t' := s1.toks) fun b o e => Heap.get?_push_of_some _ e, turn_list a _, ⟨_, Heap.get?_push_size _ rfl, rfl, rfl⟩, fun b hb => ?_, q⟩
    have e : b = s1.heap.objs.size := by simpa using hb
    subst e
    exact I1.fpOk (Nat.le_refl _) (I1.hok.fresh (Nat.le_refl _))
  · obtain ⟨its, rv, p, hz⟩ := I1.tuple hq
    refine wpAny_pyIter_tuple (show s1.heap.IsTuple a its.toArray from p) ?_
    refine ⟨s1.heap.objs.size, [s1.heap.objs.size], _, _, H1, rfl, I1.kept (t' := s1.toks) fun b o e => Heap.get?_push_of_some _ e, turn_tuple a _, ⟨_, Heap.get?_push_size _ rfl, rfl, rfl⟩, fun b hb => ?_, q⟩
    have e : b = s1.heap.objs.size := by simpa using hb
    subst e
    exact I1.fpOk (Nat.le_refl _) (I1.hok.fresh (Nat.le_refl _))
def rIxB (K : PySem.W.Frag) : R2 := fun x y H Q => ∃ p xs i v, x = .ref p ∧ y = .int i ∧ Sq K H p xs ∧ atI xs i = some v ∧ Q v H
theorem ix_both : IxR X (rIxB X.K) := by
  intro value slice pins s σ H x y v u Q I rx ry ⟨p, xs, i, z, e1, e2, hq, he, q⟩ hs
  rcases hq with hq | hq
  · exact ix_list value slice pins s σ H x y v u Q I rx ry ⟨p, xs, i, z, e1, e2, hq, he, q⟩ hs
  · exact ix_tup value slice pins s σ H x y v u Q I rx ry ⟨p, xs, i, z, e1, e2, hq, he, q⟩ hs
end
/-- f(e, .., k = v): the keyword-only parameter is named -/
theorem kbn1 {K : PySem.W.Frag} {x qual : Str} {params : Arguments} {body : List Stmt} {scope : Scope} {kws : List (Str × V)} {f : Addr} {fd : FuncData} {ps : List Str} {k : Str} (F : FunD K x qual params body scope [] kws f fd) (n : Nat)
    (h : ∀ (kV doc pm : Value) (an : Option Addr) (cdv ct : Value) (us : List Value) (w : Value), us.length = n → bindArgs (PySem.W.fnOf x qual params body scope .none kV doc pm an cdv ct) ⟨us, [(k, w)]⟩ = pure (ps.zip (us ++ [w]))) :
    KBn K fd ps n [k] (fun us ws => us ++ ws) (fun vs zs => vs ++ zs) := by
  obtain ⟨oc, od, dV, kV, doc, pm, an, cdv, ct, osl, rfl, lk, hcd, hD, hK⟩ := F.ex
  rcases hD with ⟨_, rfl⟩ | ⟨e, _⟩
  · refine ⟨fun s us ws X l1 l2 => ?_, fun r1 r2 => r1.append r2⟩
    match ws, l2 with
    | [w], _ => exact .of_eq (h kV doc pm an cdv ct us w l1)
  · exact absurd rfl e
end GB

/-! lists or tuples of ints: max, min, index, slices; len of a set -/
namespace GU
open PySem PySem.Spec PyProof.Rows L2 KA PH
section
variable {prog : Program} {w : World} {A : Around} {E : Value → Shared → Prop} {s : Shared} {l : Addr} {xs : Array (Int × Tok)}
theorem iter_intTup {Q : Value → Shared → Prop} (hl : s.heap.IsTuple l (intItems xs))
    (h : ∀ s₂ : Shared, s₂ = { s with heap := s.heap.push { cls := .type "tuple_iterator", data := .fields #[.ref l, .int 0 0] } } →
      (s₂.heap.IsTupleIter s.heap.objs.size l 0 ∧ s₂.heap.IsTuple l (intItems xs)) → (∀ b ∈ [s.heap.objs.size, l], b < s₂.heap.objs.size) → l ≠ s.heap.objs.size → Q (.ref s.heap.objs.size) s₂) :
    wpAny (model prog w) A (pyIter (.ref l)) Q E s := by
  have hlt : l < s.heap.objs.size := by obtain ⟨_, e, _⟩ := hl; exact Heap.lt_size e
  refine wpAny_pyIter_tuple hl (h _ rfl ⟨⟨_, Heap.get?_push_size _ rfl, rfl, rfl⟩, hl.push _⟩ (fun b hb => ?_) (Nat.ne_of_lt hlt))
  show b < (s.heap.push _).objs.size
  rw [Heap.size_push]
  rcases List.mem_cons.mp hb with rfl | hb
  · exact Nat.lt_succ_self _
  · rcases List.mem_cons.mp hb with rfl | hb
    · exact Nat.lt_succ_of_lt hlt
    · cases hb
theorem old_keptT {h' : Heap} (hk : ∀ b o, b ∉ [s.heap.objs.size] → (s.heap.push { cls := .type "tuple_iterator", data := .fields #[.ref l, .int 0 0] }).get? b = some o → h'.get? b = some o) :
    ∀ b o, s.heap.get? b = some o → h'.get? b = some o := fun b o e => by
  refine hk b o (fun hm => ?_) (Heap.get?_push_of_some _ e)
  rcases List.mem_cons.mp hm with e1 | hm
  · exact absurd (e1 ▸ Heap.lt_size e) (Nat.lt_irrefl _)
  · cases hm
theorem max_intTup {Q : Value → Shared → Prop} (hh : A.handled = none) (hl : s.heap.IsTuple l (intItems xs)) (hne : 0 < xs.size)
    (h : ∀ v h' tk, (intItems xs)[argBest (fun i j => decide (numAt xs i > numAt xs j)) (xs.size - 1)]? = some v → (∀ b o, s.heap.get? b = some o → h'.get? b = some o) → Q v { s with heap := h', toks := tk }) :
    wpAny (model prog w) A (call (.builtin "max") [.ref l]) Q E s := by
  refine call_max_walk (iter_intTup hl fun s₂ e st hfp hlI => ?_)
  subst e
  refine ⟨_, _, _, _, _, _, _, rfl, Walks.tuple (A := A.in1) hh _ l hlI (intItems xs), st, hfp, by simpa [intItems] using hne, CmpOf.ints_gt (numAt xs) (fun _ _ => intItems_at), fun v h' tk hP hk => ?_⟩
  exact h v h' tk (by simpa [intItems] using hP) (old_keptT hk)
theorem min_intTup {Q : Value → Shared → Prop} (hh : A.handled = none) (hl : s.heap.IsTuple l (intItems xs)) (hne : 0 < xs.size)
    (h : ∀ v h' tk, (intItems xs)[argBest (fun i j => decide (numAt xs i < numAt xs j)) (xs.size - 1)]? = some v → (∀ b o, s.heap.get? b = some o → h'.get? b = some o) → Q v { s with heap := h', toks := tk }) :
    wpAny (model prog w) A (call (.builtin "min") [.ref l]) Q E s := by
  refine call_min_walk (iter_intTup hl fun s₂ e st hfp hlI => ?_)
  subst e
  refine ⟨_, _, _, _, _, _, _, rfl, Walks.tuple (A := A.in1) hh _ l hlI (intItems xs), st, hfp, by simpa [intItems] using hne, CmpOf.ints_lt (numAt xs) (fun _ _ => intItems_at), fun v h' tk hP hk => ?_⟩
  exact h v h' tk (by simpa [intItems] using hP) (old_keptT hk)
end
section
variable {prog : Program} {w : World} {A : Around} {E : Value → Shared → Prop} {s : Shared} {l : Addr} {its : List Value} {ns : List Int} {Q : Value → Shared → Prop}
theorem max_rawT (hh : A.handled = none) (hl : IsTup s.heap l its.toArray) (hi : IntsAre its ns) (hne : 0 < ns.length)
    (h : ∀ h' tk M t', (∀ b o, s.heap.get? b = some o → h'.get? b = some o) → M ∈ ns → (∀ a, a ∈ ns → a ≤ M) → Q (.int M t') { s with heap := h', toks := tk }) : wpAny (model prog w) A (call (.builtin "max") [.ref l]) Q E s := by
  obtain ⟨xs, e⟩ := hi.allInts.items
  have hn : numsOf (intItems xs).toList = ns := by rw [← e]; exact hi.numsOf
  rw [nums_intItems] at hn
  subst hn
  rw [e] at hl
  have hsz : 0 < xs.size := by simpa using hne
  have hl2 : s.heap.IsTuple l (intItems xs) := by
    obtain ⟨o, ho, hc, n, hd⟩ := hl
    exact ⟨o, ho, hc, n, hd⟩
  refine max_intTup hh hl2 hsz fun v h' tk hv hk => ?_
  obtain ⟨t, rfl⟩ := intItems_at hv
  obtain ⟨h1, h2⟩ := argBest_gt (numAt xs) (xs.size - 1)
  refine h h' tk _ t hk ?_ fun a ha => ?_
  · rw [numAt_eq]; exact PySem.getD_mem (by rw [List.length_map, Array.length_toList]; omega)
  · obtain ⟨j, hj, rfl⟩ := mem_getD ha
    rw [List.length_map, Array.length_toList] at hj
    rw [← numAt_eq]; exact h2 j (by omega)
theorem min_rawT (hh : A.handled = none) (hl : IsTup s.heap l its.toArray) (hi : IntsAre its ns) (hne : 0 < ns.length)
    (h : ∀ h' tk M t', (∀ b o, s.heap.get? b = some o → h'.get? b = some o) → M ∈ ns → (∀ a, a ∈ ns → M ≤ a) → Q (.int M t') { s with heap := h', toks := tk }) : wpAny (model prog w) A (call (.builtin "min") [.ref l]) Q E s := by
  obtain ⟨xs, e⟩ := hi.allInts.items
  have hn : numsOf (intItems xs).toList = ns := by rw [← e]; exact hi.numsOf
  rw [nums_intItems] at hn
  subst hn
  rw [e] at hl
  have hsz : 0 < xs.size := by simpa using hne
  have hl2 : s.heap.IsTuple l (intItems xs) := by
    obtain ⟨o, ho, hc, n, hd⟩ := hl
    exact ⟨o, ho, hc, n, hd⟩
  refine min_intTup hh hl2 hsz fun v h' tk hv hk => ?_
  obtain ⟨t, rfl⟩ := intItems_at hv
  obtain ⟨h1, h2⟩ := argBest_lt (numAt xs) (xs.size - 1)
  refine h h' tk _ t hk ?_ fun a ha => ?_
  · rw [numAt_eq]; exact PySem.getD_mem (by rw [List.length_map, Array.length_toList]; omega)
  · obtain ⟨j, hj, rfl⟩ := mem_getD ha
    rw [List.length_map, Array.length_toList] at hj
    rw [← numAt_eq]; exact h2 j (by omega)
end
section
variable {X : Cx}
/-- one of two readings -/
theorem pe_either {e : Expr} {t u : TE} (h : PE X e t) (g : PE X e u) : PE X e (fun σ H Q => t σ H Q ∨ u σ H Q) :=
  ⟨fun pins s σ H Q I q => q.elim (h.run pins s σ H Q I) (g.run pins s σ H Q I)⟩
/-- max(xs), min(xs) of a list or a tuple of ints -/
def rMaxS (K : PySem.W.Frag) : List V → Hp → VK → Prop := fun vs H Q => ∃ (a : Addr) (ns : List Int), vs = [V.ref a] ∧ Sq K H a (ns.map V.int) ∧ 0 < ns.length ∧ ∀ m, m ∈ ns → (∀ y, y ∈ ns → y ≤ m) → Q (.int m) H
def rMinS (K : PySem.W.Frag) : List V → Hp → VK → Prop := fun vs H Q => ∃ (a : Addr) (ns : List Int), vs = [V.ref a] ∧ Sq K H a (ns.map V.int) ∧ 0 < ns.length ∧ ∀ m, m ∈ ns → (∀ y, y ∈ ns → m ≤ y) → Q (.int m) H
theorem cr_maxS (hc : X.calm = true) : CallR X (.builtin "max") (rMaxS X.K) := by
  intro pins s σ H vs us Q I r h
  obtain ⟨a, ns, rfl, hs | hs, hne, q⟩ := h
  · exact cr_max hc pins s σ H _ us Q I r ⟨a, ns, rfl, hs, hne, q⟩
  · obtain ⟨its, rv, hl, _⟩ := I.tuple hs
    rw [Vals.ref1 r]
    exact max_rawT (I.ok.hd hc) hl rv.ints hne fun h' tk m t' hk h1 h2 => ⟨.int _, H, I.kept hk, ⟨_, rfl⟩, q m h1 h2⟩
theorem cr_minS (hc : X.calm = true) : CallR X (.builtin "min") (rMinS X.K) := by
  intro pins s σ H vs us Q I r h
  obtain ⟨a, ns, rfl, hs | hs, hne, q⟩ := h
  · exact cr_min hc pins s σ H _ us Q I r ⟨a, ns, rfl, hs, hne, q⟩
  · obtain ⟨its, rv, hl, _⟩ := I.tuple hs
    rw [Vals.ref1 r]
    exact min_rawT (I.ok.hd hc) hl rv.ints hne fun h' tk m t' hk h1 h2 => ⟨.int _, H, I.kept hk, ⟨_, rfl⟩, q m h1 h2⟩
/-- xs[lo:hi] of a list or a tuple -/
def rSlS (K : PySem.W.Frag) : V → Option Int → Option Int → Hp → VK → Prop := fun x lo hi H Q => ∃ a xs, x = .ref a ∧ Sq K H a xs ∧ ∀ H' p, Same H H' → Sq K H' p (cutV xs lo hi) → Q (.ref p) H'
theorem cut_whole {xs : List V} {lo hi : Option Int} (h : HT.sIx xs.length 0 lo = 0 ∧ HT.sIx xs.length xs.length hi = xs.length) : cutV xs lo hi = xs := by
  unfold cutV
  rw [h.1, h.2, List.drop_zero, Nat.sub_zero, List.take_length]
theorem sl_S : SlR X (rSlS X.K) := by
  intro pins s σ H x v vl vu lo hi sl Q I rx hs pl pu h
  obtain ⟨a, xs, rfl, hS | hS, q⟩ := h
  · exact sl_list pins s σ H _ v vl vu lo hi sl Q I rx hs pl pu ⟨a, xs, rfl, hS, fun p np => q _ p (same_new np) (.inl (SqL.of upd_same))⟩
  · exact sl_tupA pins s σ H _ v vl vu lo hi sl Q I rx hs pl pu ⟨a, xs, rfl, hS, fun w => q H a (Same.refl H) (by rw [cut_whole w]; exact .inr hS), fun _ p np => q _ p (same_new np) (.inr (SqT.of upd_same))⟩
/-- xs.index(y) of ints -/
def rIdxL (K : PySem.W.Frag) : V → List V → Hp → VK → Prop := fun x xs H Q => ∃ (a : Addr) (ns : List Int) (y : Int) (j : Nat), x = V.ref a ∧ xs = [V.int y] ∧ SqL K H a (ns.map V.int) ∧ ns[j]? = some y ∧ (∀ m z, m < j → ns[m]? = some z → z ≠ y) ∧ Q (.int (j : Nat)) H
def rIdxT (K : PySem.W.Frag) : V → List V → Hp → VK → Prop := fun x xs H Q => ∃ (a : Addr) (ns : List Int) (y : Int) (j : Nat), x = V.ref a ∧ xs = [V.int y] ∧ SqT K H a (ns.map V.int) ∧ ns[j]? = some y ∧ (∀ m z, m < j → ns[m]? = some z → z ≠ y) ∧ Q (.int (j : Nat)) H
theorem flat_ints (ns : List Int) : (ns.map V.int).all flatV = true := by
  rw [List.all_map]
  exact List.all_eq_true.mpr fun _ _ => rfl
theorem mt_idxL : MtR X "list.index" (rIdxL X.K) := by
  intro pins s σ H x xs v us Q I rx rxs h
  obtain ⟨a, ns, y, j, rfl, rfl, hs, hy, hno, q⟩ := h
  refine mt_index pins s σ H _ _ v us Q I rx rxs ⟨a, ns.map V.int, .int y, j, .int y, rfl, rfl, hs, rfl, flat_ints ns, at_int hy, beq_self_eq_true y, fun m z hm hz => ?_, q⟩
  obtain ⟨r, hr, rfl⟩ := int_at hz
  exact beq_eq_false_iff_ne.mpr (hno m r hm hr)
theorem mt_idxT : MtR X "tuple.index" (rIdxT X.K) := by
  intro pins s σ H x xs v us Q I rx rs h
  obtain ⟨p, ys, z, j, rfl, rfl, hq, hy, hno, q⟩ := h
  cases rx
  obtain ⟨u, rfl, t, rfl⟩ := vals1 rs
  obtain ⟨its, r, pl, hz⟩ := I.tuple hq
  obtain ⟨⟨cls, dd, dt, sl⟩, ho, hc, n, hd⟩ := pl
  simp only at hc hd
  subst hc
  subst hd
  have hl : its.toArray.size = ys.length := by rw [List.size_toArray, ← r.length, List.length_map]
  have hj : j < its.toArray.size := by rw [hl]; exact (List.getElem?_eq_some_iff.mp hy).1
  have at' : ∀ (m : Nat) (hm : m < its.toArray.size), ∃ y t', ys[m]? = some y ∧ its.toArray[m] = Value.int y t' := fun m hm => by
    have hm' : m < ys.length := by rw [← hl]; exact hm
    obtain ⟨w, hw, t', hw'⟩ := r.get (i := m) (x := .int ys[m]) (by simp [hm'])
    refine ⟨ys[m], t', List.getElem?_eq_getElem hm', ?_⟩
    have e := (List.getElem?_eq_some_iff.mp hw).2
    rw [← hw', ← e]
    simp
  refine call_meets PySem.F.slot_tuple_index ⟨_, ho, rfl⟩ PySem.F.entry_tuple_index (PySem.F.args_tuple_index_2 _ _) (TI.tuple_indexAt p its.toArray n dd sl (.int z t) (eqU (.int z)) j hj ?_ ?_)
    ⟨ho, fun w hw => mem_eqAt (x := .int z) ⟨t, rfl⟩ rfl r (flat_ints ys) w (by simpa using hw), ⟨.int (j : Nat), H, I.tok _, ⟨_, rfl⟩, q⟩⟩
  · obtain ⟨y, t', h1, h2⟩ := at' j hj
    rw [hy] at h1
    cases h1
    rw [h2]
    show (z == z) = true
    exact beq_self_eq_true z
  · intro m hm hmj
    obtain ⟨y, t', h1, h2⟩ := at' m hm
    rw [h2]
    show (y == z) = false
    exact beq_eq_false_iff_ne.mpr (hno m y hmj h1)
/-- len(s) of a set of ints -/
def rLenSet (w : World) : List V → Hp → VK → Prop := fun vs H Q => ∃ (a : Addr) (S : Int → Bool) (n : Nat), vs = [V.ref a] ∧ H a = some (SetO w a S n) ∧ n < 2 ^ 40 ∧ ((∃ ks : List Int, ks.Nodup ∧ ks.length = n ∧ ∀ k, k ∈ ks ↔ S k = true) → Q (.int (n : Nat)) H)
theorem cr_lenSet : CallR X (.builtin "len") (rLenSet X.w) := by
  intro pins s σ H vs us Q I r h
  obtain ⟨a, S, n, rfl, ha, hn, q⟩ := h
  rw [Vals.ref1 r]
  obtain ⟨o, es, ep, t, ho, hex, hd, h1, h2, h3, h4, hf, hsz, _⟩ := setO_get I ha
  refine call_len_set ho hex hd hf (by omega) ⟨.int (n : Nat), H, I.tok _, ⟨_, by rw [hsz]⟩, q ⟨es.toList.map keyOf, h2, by rw [List.length_map, Array.length_toList, hsz], fun k => (h3 k).symm⟩⟩
end
end GU

/-! == and != of two instances by an own __eq__, both answers -/
namespace GN
open PySem PySem.Spec PyProof.Rows L2
section
variable {M : Model} {prog : Program} {w : World} {A : Around} {E : Value → Shared → Prop} {s : Shared} {K : PySem.W.Frag} {x C L f : Addr} {ox : Obj} {od : Option Obj}
theorem entry_ne {y : Value} (X : K.In s.heap) (I : PySem.W.InstAt s.heap x ox C od) (hs : PySem.W.findIn K (.ref C) "__eq__" = some (some (.ref f))) (hf : PySem.W.isFn K (.ref f) = true) (hu : A.units < cLine) {Q : Fin → Shared → Prop}
    (hcall : wpAny (model prog w) A (call (.ref f) [.ref x, y]) (fun v s' => ∃ b, v = .bool b ∧ Q (.done (.ret (.bool (!b)))) s') E s) :
    wpAny (model prog w) A (Builtin.«object.__ne__» ⟨[.ref x, y], []⟩) Q E s := by
  unfold Builtin.«object.__ne__»
  repeat (first
    | with_reducible refine wpAny_cRoomFor hu ?_
    | (refine wpAny_bind (m := callSpecialIfBound? (.ref x) (Str.ofString "__eq__") [y])
        (PySem.W.ifBound_K X I hs hf (wpAny_mono hcall (fun r s' hr => by
          obtain ⟨b, rfl, hq⟩ := hr
          repeat (first | exact hq | exact wpAny_pure hq | exact wpAny_truthy_bool hq | (refine wpAny_bind (m := truthy (.bool _)) (wpAny_truthy_bool ?_)) | wp_step)) fun _ _ e => e)))
    | wp_step)
theorem ifBound_ne {args : List Value} {Q : Option Value → Shared → Prop} (X : K.In s.heap) (I : PySem.W.InstAt s.heap x ox C od) (hs : PySem.W.findIn K (.ref C) "__ne__" = some (some (.builtin "object.__ne__")))
    (h : wpAny M A (call (.builtin "object.__ne__") (.ref x :: args)) (fun v => Q (some v)) E s) : wpAny M A (callSpecialIfBound? (.ref x) "__ne__" args) Q E s := by
  simp only [callSpecialIfBound?, bindSpecialIfBound?]
  refine wpAny_holding (wpAny_bind (wpAny_bind (wpAny_bind (I.type.here ((PySem.W.looks_findIn X hs).here ?_)))))
  refine wpAny_bind (wpAny_askSetting (wpAny_ite ?_))
  have fin : wpAny M A (call (.builtin "object.__ne__") ([.ref x] ++ args) >>= fun v => pure (some v)) Q E s := wpAny_bind (wpAny_mono h (fun v s' h' => wpAny_pure h') fun _ _ h' => h')
  split
  · exact wpAny_bind (wpAny_of_eq (F.cmp_object.ne.bind _) (wpAny_pure (by exact fin)))
  · exact wpAny_tryCatch (wpAny_bind (wpAny_of_eq (F.cmp_object.ne.bind _) (wpAny_pure (by exact fin))))
theorem rc_ne {b tb : Value} {Q : Value → Shared → Prop} (hu : A.units + 1 < cLine) (X : K.In s.heap) (I : PySem.W.InstAt s.heap x ox C od) (hb : PySem.W.Looks (model prog w) s.heap (typeOf b) tb) (hn : PySem.W.notFirst K C tb = true)
    (hm : PySem.W.mroIn K C (.type "object") = some true) (hs : PySem.W.findIn K (.ref C) "__eq__" = some (some (.ref f))) (hf : PySem.W.isFn K (.ref f) = true) (hne : PySem.W.findIn K (.ref C) "__ne__" = some (some (.builtin "object.__ne__")))
    (h : wpAny (model prog w) A.in1 (call (.ref f) [.ref x, b]) (fun v s' => ∃ r, v = .bool r ∧ Q (.bool (!r)) s') E s) : wpAny (model prog w) A (richCompare .NotEq (.ref x) b) Q E s := by
  have one : wpAny (model prog w) A (tryCompare (.ref x) "__ne__" b) (fun r s' => ∃ v, r = some v ∧ Q v s') E s := by
    unfold tryCompare
    refine wpAny_bind (ifBound_ne X I hne (wpAny_call (codeAny_call_builtin F.cmp_object.ne.plain F.cmpEntry_ne (PySem.W.check_slot F.cmpKind_ne F.cmpSplit_ne (I.type.andThen (PySem.W.looks_mroIn X hm)) (F.cmpArgs_ne _ _)
      (entry_ne (A := A.in1) X I hs hf hu (wpAny_mono h (fun v s' hv => ?_) fun _ _ e => e))))))
    obtain ⟨r, rfl, hq⟩ := hv
    first
      | exact ⟨r, rfl, wpAny_pure ⟨_, rfl, hq⟩⟩
      | exact ⟨r, rfl, wpAny_pure (wpAny_pure ⟨_, rfl, hq⟩)⟩
      | exact ⟨r, rfl, _, rfl, hq⟩
  unfold richCompare
  simp only [oneThing_ref]
  refine wpAny_holding (wpAny_bind (wpAny_cRoomFor (Nat.lt_of_succ_lt hu) ?_))
  refine wpAny_bind (I.type.here (wpAny_bind (hb.here ?_)))
  split
  · rename_i q
    have e : PySem.W.subIn K tb (.ref C) = some false := by
      rcases Bool.or_eq_true_iff.mp hn with e | e
      · rw [beq_iff_eq.mp e] at q; simp at q
      · exact beq_iff_eq.mp e
    refine wpAny_bind ((PySem.W.looks_subIn X e).here ?_)
    simp only [Bool.false_eq_true, if_false]
    refine wpAny_bind (wpAny_mono one (fun r s' z => ?_) fun _ _ e => e)
    obtain ⟨v, rfl, hq⟩ := z
    exact wpAny_pure hq
  · refine wpAny_bind (wpAny_pure ?_)
    simp only [Bool.false_eq_true, if_false]
    refine wpAny_bind (wpAny_mono one (fun r s' z => ?_) fun _ _ e => e)
    obtain ⟨v, rfl, hq⟩ := z
    exact wpAny_pure hq
end
section
variable {X : Cx} {n : Nat} {CX : CXT} {C f : Addr} {fd : FuncData} {ps : List Str} {sp : Sp} {E : XK}
/-- a def of the text, called from below -/
theorem call_own (F : FnOk X.prog X.w X.K X.mg X.base CX n f fd ps sp) (hb : Binds X.K fd ps []) (hx : Passes CX X E) {A : Around} (sb : Sub X n A) {pins : List (Addr × Obj)} {σ : L2.St} {H : Hp} {s : Shared} (I : Inv X pins σ H s) {vs : List V} {us : List Value} (r2 : Vals vs us) {Q : VK} (hsp : sp vs H Q E) :
    wpAny (model X.prog X.w) A (call (.ref f) us) (fun v s' => ∃ z H', Inv X pins σ H' s' ∧ RelV z v ∧ Q z H') X.xe s := by
  have e0 : Env0 X.prog X.w X.K X.mg X.base A X.stack s H := by
    have e := I.env0
    exact ⟨by rw [sb.fr]; exact e.frames, e.mod, e.bs, e.bsz, e.funs, e.frf, e.hok, e.bare⟩
  have hl := F.len _ _ _ _ hsp
  refine wpAny_call (codeAny_mono (F.run A X.stack s H ⟨us, []⟩ us vs _ E sb.room e0 (by
    have := hb s us I.kIn (by rw [List.append_nil, ← r2.length]; exact hl)
    simpa using this) r2 hsp) fun r s' hq => ?_)
  cases r with
  | error e => exact hx pins σ H s e s' I hq
  | ok fl =>
    cases fl with
    | ret w =>
      obtain ⟨z, H', I', rz, ez⟩ := I.after hq
      exact ⟨z, H', I', rz, ez⟩
    | next => exact False.elim hq
    | brk => exact False.elim hq
    | cont => exact False.elim hq
/-- what == (neg: !=) of two instances of the class asks -/
def rOwn (C : Addr) (sp : Sp) (E : XK) (neg : Bool) : R2 := fun x y H Q => ∃ a b dx dy fs gs, x = .ref a ∧ y = .ref b ∧ H a = some (.ins C dx fs) ∧ H b = some (.ins C dy gs) ∧ sp [.ref a, .ref b] H (fun v H' => ∃ r, v = .bl r ∧ Q (.bl (neg != r)) H') E
theorem op_eqOwn (F : FnOk X.prog X.w X.K X.mg X.base CX n f fd ps sp) (hr : Room n X.A) (hs : PySem.W.findIn X.K (.ref C) "__eq__" = some (some (.ref f))) (hf : PySem.W.isFn X.K (.ref f) = true) (hb : Binds X.K fd ps []) (hx : Passes CX X E) : OpR X (compareOp .Eq) (rOwn C sp E false) := by
  intro pins s σ H x y v u Q I rx ry hq
  obtain ⟨a, b, dx, dy, fs, gs, rfl, rfl, ha, hb', hsp⟩ := hq
  cases rx
  cases ry
  obtain ⟨mA, J, _⟩ := ins_get I.hok ha
  obtain ⟨mB, J', _⟩ := ins_get I.hok hb'
  obtain ⟨od, J, _⟩ := J.look
  obtain ⟨od', J', _⟩ := J'.look
  have sb : Sub X n X.A := ⟨hr, rfl⟩
  have r2 : Vals [V.ref a, V.ref b] [Value.ref a, Value.ref b] := .cons rfl (.cons rfl .nil)
  obtain ⟨m, hF⟩ := I.fr
  show wpAny (model X.prog X.w) X.A (richCompare .Eq _ _) (EP X pins σ Q) X.xe s
  refine PySem.W.cmp_K (op := .Eq) (tb := .ref C) sb.room.units0 hF I.ok.mod.kin J J'.type (by simp [PySem.W.notFirst]) hs hf ?_
  refine wpAny_mono (call_own F hb hx sb I r2 hsp) (fun v s' hv => ?_) fun _ _ e => e
  obtain ⟨z, H', I', rz, r, rfl, q⟩ := hv
  cases rz
  exact ⟨.bl r, H', I', rfl, by cases r <;> exact q⟩
theorem op_neOwn (F : FnOk X.prog X.w X.K X.mg X.base CX n f fd ps sp) (hr : Room (n + 1) X.A) (hs : PySem.W.findIn X.K (.ref C) "__eq__" = some (some (.ref f))) (hf : PySem.W.isFn X.K (.ref f) = true) (hm : PySem.W.mroIn X.K C (.type "object") = some true)
    (hne : PySem.W.findIn X.K (.ref C) "__ne__" = some (some (.builtin "object.__ne__"))) (hb : Binds X.K fd ps []) (hx : Passes CX X E) : OpR X (compareOp .NotEq) (rOwn C sp E true) := by
  intro pins s σ H x y v u Q I rx ry hq
  obtain ⟨a, b, dx, dy, fs, gs, rfl, rfl, ha, hb', hsp⟩ := hq
  cases rx
  cases ry
  obtain ⟨mA, J, _⟩ := ins_get I.hok ha
  obtain ⟨mB, J', _⟩ := ins_get I.hok hb'
  obtain ⟨od, J, _⟩ := J.look
  obtain ⟨od', J', _⟩ := J'.look
  have sb : Sub X (n + 1) X.A := ⟨hr, rfl⟩
  have r2 : Vals [V.ref a, V.ref b] [Value.ref a, Value.ref b] := .cons rfl (.cons rfl .nil)
  show wpAny (model X.prog X.w) X.A (richCompare .NotEq _ _) (EP X pins σ Q) X.xe s
  refine rc_ne (tb := .ref C) sb.in1.room.units0 I.kIn J J'.type (by simp [PySem.W.notFirst]) hm hs hf hne ?_
  refine wpAny_mono (call_own F hb hx sb.in1 I r2 hsp) (fun v s' hv => ?_) fun _ _ e => e
  obtain ⟨z, H', I', rz, r, rfl, q⟩ := hv
  cases rz
  exact ⟨r, rfl, .bl (!r), H', I', rfl, by cases r <;> exact q⟩
end
end GN

set_option pp.maxSteps 900
/-! k30: the program's defs over values of any kind -/
namespace M3N
open PySem PySem.Spec PyProof.Rows L2 KA KD PH PM PA PB PC RM RN RS QE QF QG DV
abbrev sNu : Stmt := topS 2
abbrev sRd : Stmt := topS 3
abbrev sRg : Stmt := topS 4
abbrev sAl : Stmt := topS 14
abbrev sCO2 : Stmt := topS 15
abbrev sIR2 : Stmt := topS 17
abbrev sIC : Stmt := topS 18
theorem scNu : FnScope ["value"] ["value"] (defScope sNu) := ⟨rfl, rfl, rfl, by decide +kernel, rfl, by decide +kernel, by decide +kernel⟩
theorem scRd : FnScope ["value"] ["value"] (defScope sRd) := ⟨rfl, rfl, rfl, by decide +kernel, rfl, by decide +kernel, by decide +kernel⟩
theorem scRg : FnScope ["value", "low", "high"] ["value"] (defScope sRg) := ⟨rfl, rfl, rfl, by decide +kernel, rfl, by decide +kernel, by decide +kernel⟩
theorem scAl : FnScope ["points"] ["points"] (defScope sAl) := ⟨rfl, rfl, rfl, by decide +kernel, rfl, by decide +kernel, by decide +kernel⟩
theorem scCO2 : FnScope ["cycles", "rest", "whole", "cycle"] ["cycles", "rest"] (defScope sCO2) := ⟨rfl, rfl, rfl, by decide +kernel, rfl, by decide +kernel, by decide +kernel⟩
theorem scIR2 : FnScope ["value", "point"] ["value"] (defScope sIR2) := ⟨rfl, rfl, rfl, by decide +kernel, rfl, by decide +kernel, by decide +kernel⟩
theorem scIC : FnScope ["cycles", "rest", "cycle"] ["cycles", "rest"] (defScope sIC) := ⟨rfl, rfl, rfl, by decide +kernel, rfl, by decide +kernel, by decide +kernel⟩
theorem pe_gc {X : Cx} {x : Str} {v : V} {pos : Pos} (hg : Gl X x) (h : ∃ u, X.mg x = some u ∧ RelV v u) (hd : (x == ("__debug__" : Str)) = false := by decide) : PE X (.Name x pos) (tC v) := by
  obtain ⟨u, h1, h2⟩ := h
  exact pe_glob hg h1 h2 hd
def isNum : PyData → Bool
  | .int _ => true | _ => false
theorem isT_tup {d : PyData} (h : isT d = true) : ∃ ds, d = .tuple ds := by
  cases d with
  | tuple ds => exact ⟨ds, rfl⟩
  | _ => exact absurd h (by simp [isT])
def isRd : PyData → Bool
  | .int i => decide ((i.natAbs : Int) ≤ 1000000000) | _ => false
def isRg : PyData → Bool
  | .tuple [.int a, .int b] => isRd (.int a) && isRd (.int b) && decide (a < b) | _ => false
theorem num_int {d : PyData} (h : isNum d = true) : ∃ i, d = .int i := by
  cases d with
  | int i => exact ⟨i, rfl⟩
  | _ => exact absurd h (by simp [isNum])
theorem rd_int {d : PyData} (h : isRd d = true) : ∃ i, d = .int i := by
  cases d with
  | int i => exact ⟨i, rfl⟩
  | _ => exact absurd h (by simp [isRd])
theorem rg_pair {d : PyData} (h : isRg d = true) : ∃ a b, d = .tuple [.int a, .int b] ∧ a < b := by
  unfold isRg at h
  split at h
  · rename_i a b
    exact ⟨a, b, rfl, by simp only [Bool.and_eq_true, decide_eq_true_eq] at h; exact h.2⟩
  · cases h
/-- the ints of readings -/
theorem rd_all : ∀ {ds : List PyData}, ds.all isRd = true → ∃ ns : List Int, ds = dInts ns
  | [], _ => ⟨[], rfl⟩
  | d :: ds, h => by
    rw [List.all_cons, Bool.and_eq_true] at h
    obtain ⟨i, rfl⟩ := rd_int h.1
    obtain ⟨ns, rfl⟩ := rd_all h.2
    exact ⟨i :: ns, rfl⟩
theorem rg_all : ∀ {ds : List PyData}, ds.all isRg = true → ∃ cs : List (Int × Int), ds = dPairs cs ∧ ∀ r ∈ cs, r.1 < r.2
  | [], _ => ⟨[], rfl, fun _ z => nomatch z⟩
  | d :: ds, h => by
    rw [List.all_cons, Bool.and_eq_true] at h
    obtain ⟨a, b, rfl, hab⟩ := rg_pair h.1
    obtain ⟨cs, rfl, hc⟩ := rg_all h.2
    exact ⟨(a, b) :: cs, rfl, fun r hr => by
      rcases List.mem_cons.mp hr with rfl | hr
      · exact hab
      · exact hc r hr⟩
theorem dv_ints_of {f : Addr} {H : Hp} : ∀ {ns : List Int} {xs : List V}, DvAll f H xs (dInts ns) → xs = ns.map V.int
  | [], _, h => by cases h; rfl
  | n :: ns, _, h => by
    cases h with
    | cons h1 h2 =>
      cases h1
      rw [dv_ints_of h2]
      rfl
theorem dv_pairs_of {f : Addr} {H : Hp} : ∀ {rs : List (Int × Int)} {xs : List V}, DvAll f H xs (dPairs rs) → PairsAt H xs rs
  | [], _, h => by cases h; trivial
  | r :: rs, _, h => by
    cases h with
    | cons h1 h2 =>
      cases h1 with
      | tup n e a =>
        cases a with
        | cons a1 a2 =>
          cases a1
          cases a2 with
          | cons a3 a4 =>
            cases a3
            cases a4
            exact ⟨⟨_, rfl, e⟩, dv_pairs_of h2⟩
def leftB (ns : List Int) : Bool := decide (tp ns = ns) && (plc ns).isEmpty
theorem run_nil {p q : List Int} (h : Run p [] q) : p = q := by cases h; rfl
theorem left_iff {ns rs : List Int} {cs : List (Int × Int)} (r : Run (tp ns) cs rs) (n : NF rs) : leftB ns = decide (rs = ns) := by
  unfold leftB
  by_cases e : rs = ns
  · subst e
    have l1 := r.len
    have l2 := tp_len rs
    have c0 : cs = [] := List.length_eq_zero_iff.mp (by omega)
    subst c0
    have e2 : tp rs = rs := run_nil r
    rw [decide_eq_true e2, plc_of_nf n]
    simp
  · rw [decide_eq_false e]
    by_cases e2 : tp ns = ns
    · cases hp : plc ns with
      | cons _ _ => simp
      | nil =>
        have nf := nf_of_plc hp
        rw [e2] at r
        cases r with
        | nil => exact absurd rfl e
        | cons s _ => exact absurd s (nf _ _)
    · rw [decide_eq_false e2]
      rfl
def intsOf : List PyData → List Int
  | [] => [] | .int i :: ds => i :: intsOf ds | _ :: ds => intsOf ds
theorem intsOf_ints : ∀ ns : List Int, intsOf (dInts ns) = ns
  | [] => rfl
  | n :: ns => by show n :: intsOf (dInts ns) = _; rw [intsOf_ints ns]
def pairsOf : List PyData → List (Int × Int)
  | [] => [] | .tuple [.int a, .int b] :: ds => (a, b) :: pairsOf ds | _ :: ds => pairsOf ds
theorem pairsOf_pairs : ∀ cs : List (Int × Int), pairsOf (dPairs cs) = cs
  | [] => rfl
  | n :: ns => by show (n.1, n.2) :: pairsOf (dPairs ns) = _; rw [pairsOf_pairs ns]
def restB : PyData → Bool
  | .tuple ds => ds.all isRd && leftB (intsOf ds) | _ => false
/-- whether all cycles lie in the range of the rest -/
def inB (cs : List (Int × Int)) (ns : List Int) : Bool := cs.all fun r => ns.any (fun x => decide (x ≤ r.1)) && ns.any (fun x => decide (r.2 ≤ x))
def countB : PyData → PyData → Bool
  | .tuple ds, e => ds.all isRg && restB e && (match e with | .tuple es => inB (pairsOf ds) (intsOf es) | _ => false) | _, _ => false
/-- no more than 2000 items -/
def Wd : PyData → Prop
  | .tuple ds => ds.length ≤ 2000 | _ => True
theorem ev_ints : ∀ as bs : List Int, PyData.eqvAll (dInts as) (dInts bs) = decide (as = bs)
  | [], [] => by simp [dInts, PyData.eqvAll]
  | [], _ :: _ => by simp [dInts, PyData.eqvAll]
  | _ :: _, [] => by simp [dInts, PyData.eqvAll]
  | a :: as, b :: bs => by
    have ih := ev_ints as bs
    show (PyData.eqv (.int a) (.int b) && PyData.eqvAll (dInts as) (dInts bs)) = _
    rw [ih]
    simp [PyData.eqv, Bool.beq_eq_decide_eq]
theorem ev_lst (as bs : List Int) : PyData.eqv (.list (dInts as)) (.list (dInts bs)) = decide (as = bs) := by
  rw [← ev_ints]; simp [PyData.eqv]
theorem pr_at {H : Hp} : ∀ {xs : List V} {cs : List (Int × Int)} {i : Nat} {x : V}, PairsAt H xs cs → xs[i]? = some x → ∃ r p, cs[i]? = some r ∧ x = .ref p ∧ H p = some (.tup [.int r.1, .int r.2])
  | [], [], _, _, _, e => by simp at e
  | x :: xs, r :: cs, 0, _, ⟨⟨p, h1, h2⟩, h3⟩, e => by
    simp only [List.getElem?_cons_zero, Option.some.injEq] at e
    subst e
    exact ⟨r, p, rfl, h1, h2⟩
  | x :: xs, r :: cs, i + 1, _, ⟨_, h3⟩, e => pr_at (i := i) h3 e
  | [], _ :: _, _, _, h, _ => h.elim
  | _ :: _, [], _, _, h, _ => h.elim
theorem any_min {ns : List Int} {m c : Int} (h1 : m ∈ ns) (h2 : ∀ y, y ∈ ns → m ≤ y) : ns.any (fun x => decide (x ≤ c)) = decide (m ≤ c) := by
  by_cases h : m ≤ c
  · rw [decide_eq_true h]; exact List.any_eq_true.mpr ⟨m, h1, decide_eq_true h⟩
  · rw [decide_eq_false h]
    cases e : ns.any fun x => decide (x ≤ c) with
    | false => rfl
    | true =>
      obtain ⟨x, hx, hc⟩ := List.any_eq_true.mp e
      have := of_decide_eq_true hc
      have := h2 x hx
      omega
theorem any_max {ns : List Int} {m c : Int} (h1 : m ∈ ns) (h2 : ∀ y, y ∈ ns → y ≤ m) : ns.any (fun x => decide (c ≤ x)) = decide (c ≤ m) := by
  by_cases h : c ≤ m
  · rw [decide_eq_true h]; exact List.any_eq_true.mpr ⟨m, h1, decide_eq_true h⟩
  · rw [decide_eq_false h]
    cases e : ns.any fun x => decide (c ≤ x) with
    | false => rfl
    | true =>
      obtain ⟨x, hx, hc⟩ := List.any_eq_true.mp e
      have := of_decide_eq_true hc
      have := h2 x hx
      omega
theorem inB_take {cs : List (Int × Int)} {ns : List Int} {i : Nat} {r : Int × Int} (e : cs[i]? = some r) : inB (cs.take (i + 1)) ns = (inB (cs.take i) ns && (ns.any (fun x => decide (x ≤ r.1)) && ns.any (fun x => decide (r.2 ≤ x)))) := by
  unfold inB
  rw [List.take_add_one, e, Option.toList_some, List.all_append, List.all_cons, List.all_nil, Bool.and_true]
theorem all_take {f : PyData → Bool} {ds : List PyData} {i : Nat} {d : PyData} (e : ds[i]? = some d) : (ds.take (i + 1)).map f = (ds.take i).map f ++ [f d] := by
  rw [List.take_add_one, e, Option.toList_some, List.map_append]
  rfl
theorem all_id {f : PyData → Bool} (ds : List PyData) : (ds.map f).all id = ds.all f := by
  rw [List.all_map]
  rfl
section
variable {P : Program} {w : World} {K : PySem.W.Frag} {mg : Str → Option Value} {base : Heap}
def spNu : Sp := fun vs H Q _ => ∃ (v : V) (g : Addr) (d : PyData), vs = [v] ∧ Dv g H v d ∧ Q (.bl (isNum d)) H
theorem ok_nu {f : Addr} {fd : FuncData} {k : Nat} (F : Fun K "is_number" "is_number" sNu f fd) (ms : mg "isinstance" = none) (mi : mg "int" = none) (mb : mg "bool" = none) : FnOk P w K mg base CX0 (k + 1) f fd ["value"] spNu := by
  refine F.ok scNu (fun vs H Q E h => ?_) (fun cdv A outer s H vs Q E hr h => ?_)
  · obtain ⟨v, g, d, rfl, hd, hq⟩ := h
    rfl
  · obtain ⟨v, g, d, rfl, hd, hq⟩ := h
    refine ⟨_, (pss_one (ps_ret (pe_and (pe_callB call_isi (by rfl) ms (by decide +kernel) (pa_cons (pv 0) (pa_cons (pe_bltn (v := .ty "int") (by rfl) mi (by decide +kernel) rfl) pa_nil))) (pe_one (pe_not (pe_callB call_isi (by rfl) ms (by decide +kernel) (pa_cons (pv 0) (pa_cons (pe_bltn (v := .ty "bool") (by rfl) mb (by decide +kernel) rfl) pa_nil)))))))), ?_⟩
    refine ⟨v, rfl, v, .ty "int", _, .type "int", _, rfl, .ty "int", hd.ty, kit_i d, _, rfl, ?_⟩
    cases hi : isI d with
    | false =>
      rw [show isNum d = false by cases d <;> simp_all [isI, isNum]] at hq
      exact iteF hq
    | true =>
      refine iteT ⟨v, rfl, v, .ty "bool", _, .type "bool", _, rfl, .ty "bool", hd.ty, kit_b d, _, rfl, ?_⟩
      rw [show isNum d = !isB d by cases d <;> simp_all [isI, isB, isNum]] at hq
      exact hq
def spRd : Sp := fun vs H Q _ => ∃ (v : V) (g : Addr) (d : PyData), vs = [v] ∧ Dv g H v d ∧ Q (.bl (isRd d)) H
theorem ok_rd {f : Addr} {fd : FuncData} {fNU : Addr} {dNU : FuncData} {k : Nat} (F : Fun K "is_reading" "is_reading" sRd f fd) (GNU : FnOk P w K mg base CX0 (k + 1) fNU dNU ["value"] spNu) (gNU : mg "is_number" = some (.ref fNU)) (kNU : PySem.W.keepIn K (.ref fNU) = true) (bNU : Binds K dNU ["value"] []) (ma : mg "abs" = none) (gL : ∃ u, mg "LIMIT" = some u ∧ RelV (.int 1000000000) u) : FnOk P w K mg base CX0 (k + 2) f fd ["value"] spRd := by
  refine F.ok scRd (fun vs H Q E h => ?_) (fun cdv A outer s H vs Q E hr h => ?_)
  · obtain ⟨v, g, d, rfl, hd, hq⟩ := h
    rfl
  · obtain ⟨v, g, d, rfl, hd, hq⟩ := h
    refine ⟨_, (pss_one (ps_ret (pe_and (pe_call GNU hr (by rfl) gNU kNU bNU .nil pass0 (pa_cons (pv 0) pa_nil)) (pe_one (pe_cmpR op_le (pe_callB call_abs (by rfl) ma (by decide +kernel) (pa_cons (pv 0) pa_nil)) (pe_gc (v := .int 1000000000) (by rfl) gL) (nomark _)))))), ?_⟩
    refine ⟨v, rfl, v, g, d, rfl, hd, _, rfl, ?_⟩
    cases hn : isNum d with
    | false =>
      rw [show isRd d = false by cases d <;> simp_all [isRd, isNum]] at hq
      exact iteF hq
    | true =>
      obtain ⟨i, rfl⟩ := num_int hn
      cases hd
      refine iteT ⟨.int i, rfl, _, rfl, _, _, rfl, rfl, ?_⟩
      show Q (V.bl (decide _)) H
      rw [abs_i]
      exact hq
def spRg : Sp := fun vs H Q _ => ∃ (v : V) (g : Addr) (d : PyData), vs = [v] ∧ Dv g H v d ∧ Q (.bl (isRg d)) H
theorem ok_rg {f : Addr} {fd : FuncData} {fRD : Addr} {dRD : FuncData} {k : Nat} (F : Fun K "is_range" "is_range" sRg f fd) (GRD : FnOk P w K mg base CX0 (k + 2) fRD dRD ["value"] spRd) (gRD : mg "is_reading" = some (.ref fRD)) (kRD : PySem.W.keepIn K (.ref fRD) = true) (bRD : Binds K dRD ["value"] []) (ms : mg "isinstance" = none) (mt : mg "tuple" = none) (ml : mg "len" = none) : FnOk P w K mg base CX0 (k + 3) f fd ["value"] spRg := by
  refine F.ok scRg (fun vs H Q E h => ?_) (fun cdv A outer s H vs Q E hr h => ?_)
  · obtain ⟨v, g, d, rfl, hd, hq⟩ := h
    rfl
  · obtain ⟨v, g, d, rfl, hd, hq⟩ := h
    refine ⟨_, (pss_cons (ps_if (PW.pt (pw_or (pt_not (pt_val (pe_callB call_isi (by rfl) ms (by decide +kernel) (pa_cons (pv 0) (pa_cons (pe_bltn (v := .ty "tuple") (by rfl) mt (by decide +kernel) rfl) pa_nil))))) (pw_or1 (pt_cmpR op_ne (pe_callB call_len_seq (by rfl) ml PySem.boot_len (pa_cons (pv 0) pa_nil)) pe_int (nomark _))))) (pss_one (ps_ret pe_bl)) pss_nil)
      (pss_cons (ps_asg (pv 0) (pg_tup rfl (pgs_cons (pg_name (i := 1) scRg.nd rfl (.inl rfl)) (pgs_cons (pg_name (i := 2) scRg.nd rfl (.inl rfl)) pgs_nil))))
      (pss_one (ps_ret (pe_and (pe_call GRD hr (by rfl) gRD kRD bRD .nil pass0 (pa_cons (pv 1) pa_nil)) (pe_and (pe_call GRD hr (by rfl) gRD kRD bRD .nil pass0 (pa_cons (pv 2) pa_nil)) (pe_one (pe_cmpR op_lt (pv 1) (pv 2) (nomark _))))))))), ?_⟩
    refine ⟨v, rfl, v, .ty "tuple", _, .type "tuple", _, rfl, .ty "tuple", hd.ty, kit_t d, _, rfl, ?_⟩
    cases ht : isT d with
    | false =>
      rw [show isRg d = false by cases d <;> simp_all [isRg, isT]] at hq
      exact iteT (iteT hq)
    | true =>
      obtain ⟨ds, rfl⟩ := isT_tup ht
      cases hd with
      | @tup a xs _ hn e da =>
        refine iteF ⟨.ref a, rfl, _, _, rfl, .inr (SqT.of e), rfl, _, rfl, ?_⟩
        by_cases hl : ds.length = 2
        · have hl2 : xs.length = 2 := by rw [da.length]; exact hl
          have e2 : decide (V.int (xs.length : Int) = V.int 2) = true := decide_eq_true (by rw [hl2]; rfl)
          rw [e2]
          refine iteF ?_
          obtain ⟨x, y, rfl⟩ : ∃ x y, xs = [x, y] := by
            match xs, hl2 with
            | [x, y], _ => exact ⟨x, y, rfl⟩
          obtain ⟨d1, d2, rfl⟩ : ∃ x y, ds = [x, y] := by
            match ds, hl with
            | [x, y], _ => exact ⟨x, y, rfl⟩
          cases da with
          | cons h1 da =>
            cases da with
            | cons h2 da =>
              cases da
              refine ⟨.ref a, rfl, a, [x, y], rfl, SqT.of e, rfl, x, _, rfl, y, _, rfl, rfl, ?_⟩
              refine ⟨x, rfl, x, g, d1, rfl, h1, _, rfl, ?_⟩
              cases r1 : isRd d1 with
              | false =>
                rw [show isRg (.tuple [d1, d2]) = false by unfold isRg; split <;> simp_all] at hq
                exact iteF hq
              | true =>
                refine iteT ⟨y, rfl, y, g, d2, rfl, h2, _, rfl, ?_⟩
                cases r2 : isRd d2 with
                | false =>
                  rw [show isRg (.tuple [d1, d2]) = false by unfold isRg; split <;> simp_all] at hq
                  exact iteF hq
                | true =>
                  obtain ⟨i, rfl⟩ := rd_int r1
                  obtain ⟨j, rfl⟩ := rd_int r2
                  cases h1
                  cases h2
                  rw [show isRg (.tuple [.int i, .int j]) = decide (i < j) by show (_ && _ && _) = _; rw [r1, r2]; rfl] at hq
                  exact iteT ⟨.int i, rfl, .int j, rfl, _, _, rfl, rfl, hq⟩
        · have e2 : decide (V.int (xs.length : Int) = V.int 2) = false := decide_eq_false fun z => hl (by have := V.int.inj z; rw [← da.length]; omega)
          rw [e2]
          rw [show isRg (.tuple ds) = false by unfold isRg; split <;> simp_all] at hq
          exact iteT hq
def spAl : Sp := fun vs H Q _ => ∃ (a : Addr) (ns : List Int), vs = [.ref a] ∧ H a = some (.tup (ns.map V.int)) ∧ ns.length ≤ 2000 ∧ ∀ H', Same H H' → Q (.bl (leftB ns)) H'
theorem ok_al {f : Addr} {fd : FuncData} {fCN : Addr} {dCN : FuncData} {k : Nat} (F : Fun K "are_left" "are_left" sAl f fd) (GCN : FnOk P w K mg base CX0 (k + 4) fCN dCN ["load"] (spCo K)) (gCN : mg "_counted" = some (.ref fCN)) (kCN : PySem.W.keepIn K (.ref fCN) = true) (bCN : Binds K dCN ["load"] []) (mt : mg "list" = none) : FnOk P w K mg base CX0 (k + 5) f fd ["points"] spAl := by
  refine F.ok scAl (fun vs H Q E h => ?_) (fun cdv A outer s H vs Q E hr h => ?_)
  · obtain ⟨a, ns, rfl, ha, hl, hq⟩ := h
    rfl
  · obtain ⟨a, ns, rfl, ha, hl, hq⟩ := h
    refine ⟨_, (pss_one (ps_ret (pe_cmpR (op_eqD hr.units) (pe_ix ix_tup (pe_call GCN hr (by rfl) gCN kCN bCN .nil pass0 (pa_cons (pv 0) pa_nil)) pe_int (fun _ _ => rfl)) (pe_callTy call_list_of (by rfl) mt (by decide +kernel) (pa_cons (pv 0) pa_nil)) (nomark _)))), ?_⟩
    refine ⟨.ref a, rfl, a, ns, rfl, .inr (SqT.of ha), by omega, fun H' p c r xs cs rs s np hp hc pr hr' run nf => ?_⟩
    refine ⟨p, _, _, .ref r, rfl, rfl, SqT.of hp, rfl, .ref a, rfl, a, _, rfl, .inr (SqT.of (s _ _ ha)), fun l nl => ?_⟩
    have sl := same_new nl (o := .lst (ns.map V.int))
    refine ⟨.list (dInts rs), .list (dInts ns), .lst (SqL.of (sl _ _ hr')) (dp_ints rs), .lst (SqL.of upd_same) (dp_ints ns), shaped_lst rs, shaped_lst ns, ?_⟩
    rw [ev_lst, ← left_iff run nf]
    exact hq _ (s.trans sl)
def spOu : Sp := fun vs H Q _ => ∃ (a b : Addr) (xs : List V) (cs : List (Int × Int)) (ns : List Int), vs = [.ref a, .ref b] ∧ H a = some (.tup xs) ∧ PairsAt H xs cs ∧ H b = some (.tup (ns.map V.int)) ∧ cs.length ≤ 2000 ∧ ns.length ≤ 2000 ∧ (∀ r ∈ cs, r.1 < r.2) ∧
  ∀ H' p ys, Same H H' → H' p = some (.lst ys) → ys.isEmpty = inB cs ns → Q (.ref p) H'
theorem ok_ou {f : Addr} {fd : FuncData} {fCO : Addr} {dCO : FuncData} {k : Nat} (F : Fun K "cycles_outside" "cycles_outside" sCO2 f fd) (GCO : FnOk P w K mg base CX0 (k + 1) fCO dCO ["outer", "inner"] (spCont K)) (gCO : mg "contains" = some (.ref fCO)) (kCO : PySem.W.keepIn K (.ref fCO) = true) (bCO : Binds K dCO ["outer", "inner"] []) (mn : mg "min" = none) (mx : mg "max" = none) (mt : mg "list" = none) : FnOk P w K mg base CX0 (k + 2) f fd ["cycles", "rest"] spOu := by
  refine F.ok scCO2 (fun vs H Q E h => ?_) (fun cdv A outer s H vs Q E hr h => ?_)
  · obtain ⟨a, b, xs, cs, ns, rfl, ha, hp, hb, hl1, hl2, hlt, hq⟩ := h
    rfl
  · obtain ⟨a, b, xs, cs, ns, rfl, ha, hp, hb, hl1, hl2, hlt, hq⟩ := h
    refine ⟨_, (pss_cons (ps_if (pt_not (pt_truth (pv 1) (by intro _; rfl))) (pss_one (ps_ret (pe_callTy call_list_of (by rfl) mt (by decide +kernel) (pa_cons (pv 0) pa_nil)))) pss_nil)
      (pss_cons (ps_set (i := 2) scCO2.nd rfl (.inr rfl) (pe_tup (pa_cons (pe_callB (GU.cr_minS rfl) (by rfl) mn (by decide +kernel) (pa_cons (pv 1) pa_nil)) (pa_cons (pe_callB (GU.cr_maxS rfl) (by rfl) mx (by decide +kernel) (pa_cons (pv 1) pa_nil)) pa_nil))))
      (pss_one (ps_ret (pe_lc (own := [("cycle", 3)]) (g := gName 3)   rfl scCO2.nd (pi_tup (pv 0)) (blkOk_by (own := [("cycle", 3)]) (N := ["cycles", "rest", "whole", "cycle"]) (sc := defScope sCO2) (by decide +kernel)) (fun _ _ _ _ _ => (pg_name (i := 3) scCO2.nd rfl (Or.inl rfl) (Or.inr rfl))) (fun _ _ _ _ _ => pts_one (pt_not (pt_val (pe_call GCO hr (by rfl) gCO kCO bCO .nil pass0 (pa_cons (pv 2) (pa_cons (pv 3) pa_nil)))))) (fun _ _ _ _ _ => (pv 3))))))), ?_⟩
    cases ns with
    | nil =>
      refine ⟨.ref b, rfl, _, .inr (.inl ⟨_, SqT.of hb, rfl⟩), iteT ⟨.ref a, rfl, a, xs, rfl, .inr (SqT.of ha), fun l nl => hq _ l xs (same_new nl) upd_same ?_⟩⟩
      have := hp.length
      cases xs with
      | nil =>
        cases cs with
        | nil => rfl
        | cons _ _ => simp at this
      | cons _ _ =>
        cases cs with
        | nil => simp at this
        | cons _ _ => rfl
    | cons n0 ns0 =>
      generalize hns : n0 :: ns0 = ns at *
      have npos : 0 < ns.length := by rw [← hns]; exact Nat.succ_pos _
      have ntru : (!(ns.map V.int).isEmpty) = true := by rw [← hns]; rfl
      refine ⟨.ref b, rfl, _, .inr (.inl ⟨_, SqT.of hb, rfl⟩), ?_⟩
      rw [ntru]
      refine iteF ⟨.ref b, rfl, b, ns, rfl, .inr (SqT.of hb), npos, fun mn h1 h2 => ⟨.ref b, rfl, b, ns, rfl, .inr (SqT.of hb), npos, fun mx h3 h4 => ⟨(show 2 ≤ sizeLine by decide), fun wp nw => ?_⟩⟩⟩
      have sw := same_new nw (o := .tup [.int mn, .int mx])
      have ew : (upd H wp (.tup [.int mn, .int mx])) wp = some (.tup [.int mn, .int mx]) := upd_same
      have ha1 := sw _ _ ha
      have hp1 := hp.same sw
      generalize upd H wp (.tup [.int mn, .int mx]) = H1 at sw ew ha1 hp1 ⊢
      refine ⟨.ref a, rfl, a, rfl, ⟨xs, SqT.of ha1⟩, fun D nD => ?_⟩
      refine lc_it (walk_tup (xs := xs)) (fun i Hz => Same H1 Hz ∧ ∃ ys, Hz D = some (.lst ys) ∧ ys.length ≤ i ∧ ys.isEmpty = inB (cs.take i) ns) ⟨same_new nD, [], upd_same, Nat.le_refl _, rfl⟩ (fun i Hz _ z => SqT.of (z.1 _ _ ha1)) ?_ ?_
      · rintro i x Hz H2 hi ⟨sz, ys, hD, hyl, hye⟩ ⟨rfl, hx⟩
        obtain ⟨r, p, hr1, rfl, hp2⟩ := pr_at hp1 hx
        refine ⟨rfl, .ref wp, rfl, .ref p, rfl, wp, p, mn, mx, r.1, r.2, rfl, SqT.of (sz _ _ ew), SqT.of (sz _ _ hp2), _, rfl, ?_⟩
        have hb2 := inB_take (ns := ns) hr1
        rw [any_min h1 h2, any_max h3 h4] at hb2
        cases hc : (decide (mn ≤ r.1) && decide (r.2 ≤ mx)) with
        | true =>
          rw [hc, Bool.and_true] at hb2
          exact iteF ⟨sz, ys, hD, by omega, by rw [hb2]; exact hye⟩
        | false =>
          rw [hc, Bool.and_false] at hb2
          have hlx : xs.length ≤ 2000 := by rw [hp.length]; exact hl1
          refine iteT ⟨.ref p, rfl, ys, hD, small3000 (by omega), fun b o e => ?_, ys ++ [.ref p], upd_same, by simp; omega, by rw [hb2]; simp⟩
          rw [upd_ne (ne_of_none e nD)]
          exact sz b o e
      · rintro Hz ⟨sz, ys, hD, hyl, hye⟩
        refine hq _ D ys (sw.trans sz) hD ?_
        rw [hye, hp.length, List.take_length]
def spIs : Sp := fun vs H Q _ => ∃ (v : V) (g : Addr) (d : PyData), vs = [v] ∧ Dv g H v d ∧ Wd d ∧ ∀ H', Same H H' → Q (.bl (restB d)) H'
theorem ok_is {f : Addr} {fd : FuncData} {fRD : Addr} {dRD : FuncData} {fAL : Addr} {dAL : FuncData} {k : Nat} (F : Fun K "is_rest" "is_rest" sIR2 f fd) (GRD : FnOk P w K mg base CX0 (k + 2) fRD dRD ["value"] spRd) (gRD : mg "is_reading" = some (.ref fRD)) (kRD : PySem.W.keepIn K (.ref fRD) = true) (bRD : Binds K dRD ["value"] []) (GAL : FnOk P w K mg base CX0 (k + 5) fAL dAL ["points"] spAl) (gAL : mg "are_left" = some (.ref fAL)) (kAL : PySem.W.keepIn K (.ref fAL) = true) (bAL : Binds K dAL ["points"] []) (ms : mg "isinstance" = none) (mt : mg "tuple" = none) (mall : mg "all" = none) : FnOk P w K mg base CX0 (k + 6) f fd ["value"] spIs := by
  refine F.ok scIR2 (fun vs H Q E h => ?_) (fun cdv A outer s H vs Q E hr h => ?_)
  · obtain ⟨v, g, d, rfl, hd, hw, hq⟩ := h
    rfl
  · obtain ⟨v, g, d, rfl, hd, hw, hq⟩ := h
    refine ⟨_, (pss_one (ps_ret (pe_and (pe_callB call_isi (by rfl) ms (by decide +kernel) (pa_cons (pv 0) (pa_cons (pe_bltn (v := .ty "tuple") (by rfl) mt (by decide +kernel) rfl) pa_nil))) (pe_and (pe_callB (cr_all rfl) (by rfl) mall (by decide +kernel) (pa_cons (pe_lc (own := [("point", 1)]) (g := gName 1) (tt := tYes)  rfl scIR2.nd (pi_tup (pv 0)) (blkOk_by (own := [("point", 1)]) (N := ["value", "point"]) (sc := defScope sIR2) (by decide +kernel)) (fun _ _ _ _ _ => (pg_name (i := 1) scIR2.nd rfl (Or.inl rfl) (Or.inr rfl))) (fun _ _ _ _ _ => pts_nil) (fun _ _ _ _ _ => (pe_call (GRD.mono (show k + 2 ≤ k + 5 by omega)) hr (by rfl) gRD kRD bRD .nil pass0 (pa_cons (pv 1) pa_nil)))) pa_nil)) (pe_one (pe_call GAL hr (by rfl) gAL kAL bAL .nil pass0 (pa_cons (pv 0) pa_nil))))))), ?_⟩
    refine ⟨v, rfl, v, .ty "tuple", _, .type "tuple", _, rfl, .ty "tuple", hd.ty, kit_t d, _, rfl, ?_⟩
    cases ht : isT d with
    | false =>
      have hq := hq _ (Same.refl H)
      rw [show restB d = false by cases d <;> simp_all [restB, isT]] at hq
      exact iteF hq
    | true =>
      obtain ⟨ds, rfl⟩ := isT_tup ht
      cases hd with
      | @tup a xs _ hn e da =>
        have hl : xs.length ≤ 2000 := by rw [da.length]; exact hw
        refine iteT ⟨.ref a, rfl, a, rfl, ⟨xs, SqT.of e⟩, fun D nD => ?_⟩
        refine lc_it (walk_tup (xs := xs)) (fun i Hz => Same H Hz ∧ Hz D = some (.lst (((ds.take i).map isRd).map V.bl))) ⟨same_new nD, upd_same⟩ (fun i Hz _ z => SqT.of (z.1 _ _ e)) ?_ ?_
        · rintro i x Hz H2 hi ⟨sz, hD⟩ ⟨rfl, hx⟩
          obtain ⟨d2, e2, dv⟩ := da.at hx
          refine ⟨rfl, iteT (B := True) ⟨x, rfl, x, g, d2, rfl, dv.same sz, _, hD, ?_, fun b o eb => ?_, ?_⟩⟩
          · simp only [List.length_map, List.length_take]
            exact small3000 (by omega)
          · rw [upd_ne (ne_of_none eb nD)]
            exact sz b o eb
          · rw [all_take e2, List.map_append]
            exact upd_same
        · rintro Hz ⟨sz, hD⟩
          rw [da.length, List.take_length] at hD
          refine ⟨D, ds.map isRd, rfl, SqL.of hD, _, rfl, ?_⟩
          rw [all_id]
          cases hb : ds.all isRd with
          | false =>
            have hq := hq _ sz
            rw [show restB (.tuple ds) = false by show (_ && _) = _; rw [hb]; rfl] at hq
            exact iteF hq
          | true =>
            obtain ⟨ns, rfl⟩ := rd_all hb
            have ex := dv_ints_of da
            subst ex
            refine iteT ⟨.ref a, rfl, a, ns, rfl, sz _ _ e, by simpa using hl, fun H' s' => ?_⟩
            have hq := hq _ (sz.trans s')
            rw [show restB (.tuple (dInts ns)) = leftB ns by show (_ && _) = _; rw [hb, intsOf_ints]; rfl] at hq
            exact hq
def spIC : Sp := fun vs H Q _ => ∃ (v1 v2 : V) (g : Addr) (d1 d2 : PyData), vs = [v1, v2] ∧ Dv g H v1 d1 ∧ Dv g H v2 d2 ∧ Wd d1 ∧ Wd d2 ∧ ∀ H', Same H H' → Q (.bl (countB d1 d2)) H'
theorem ok_ic {f : Addr} {fd : FuncData} {fRG : Addr} {dRG : FuncData} {fIS : Addr} {dIS : FuncData} {fOU : Addr} {dOU : FuncData} {k : Nat} (F : Fun K "is_count" "is_count" sIC f fd) (GRG : FnOk P w K mg base CX0 (k + 3) fRG dRG ["value"] spRg) (gRG : mg "is_range" = some (.ref fRG)) (kRG : PySem.W.keepIn K (.ref fRG) = true) (bRG : Binds K dRG ["value"] []) (GIS : FnOk P w K mg base CX0 (k + 6) fIS dIS ["value"] spIs) (gIS : mg "is_rest" = some (.ref fIS)) (kIS : PySem.W.keepIn K (.ref fIS) = true) (bIS : Binds K dIS ["value"] []) (GOU : FnOk P w K mg base CX0 (k + 2) fOU dOU ["cycles", "rest"] spOu) (gOU : mg "cycles_outside" = some (.ref fOU)) (kOU : PySem.W.keepIn K (.ref fOU) = true) (bOU : Binds K dOU ["cycles", "rest"] []) (ms : mg "isinstance" = none) (mt : mg "tuple" = none) (mall : mg "all" = none) : FnOk P w K mg base CX0 (k + 7) f fd ["cycles", "rest"] spIC := by
  refine F.ok scIC (fun vs H Q E h => ?_) (fun cdv A outer s H vs Q E hr h => ?_)
  · obtain ⟨v1, v2, g, d1, d2, rfl, hd1, hd2, hw1, hw2, hq⟩ := h
    rfl
  · obtain ⟨v1, v2, g, d1, d2, rfl, hd1, hd2, hw1, hw2, hq⟩ := h
    refine ⟨_, (pss_cons (ps_if (PW.pt (pw_or (pt_not (pt_val (pe_callB call_isi (by rfl) ms (by decide +kernel) (pa_cons (pv 0) (pa_cons (pe_bltn (v := .ty "tuple") (by rfl) mt (by decide +kernel) rfl) pa_nil))))) (pw_or1 (pt_not (pt_val (pe_callB (cr_all rfl) (by rfl) mall (by decide +kernel) (pa_cons (pe_lc (own := [("cycle", 2)]) (g := gName 2) (tt := tYes)  rfl scIC.nd (pi_tup (pv 0)) (blkOk_by (own := [("cycle", 2)]) (N := ["cycles", "rest", "cycle"]) (sc := defScope sIC) (by decide +kernel)) (fun _ _ _ _ _ => (pg_name (i := 2) scIC.nd rfl (Or.inl rfl) (Or.inr rfl))) (fun _ _ _ _ _ => pts_nil) (fun _ _ _ _ _ => (pe_call (GRG.mono (show k + 3 ≤ k + 6 by omega)) hr (by rfl) gRG kRG bRG .nil pass0 (pa_cons (pv 2) pa_nil)))) pa_nil))))))) (pss_one (ps_ret pe_bl)) pss_nil)
      (pss_one (ps_ret (pe_and (pe_call GIS hr (by rfl) gIS kIS bIS .nil pass0 (pa_cons (pv 1) pa_nil)) (pe_one (pe_notT (pe_call (GOU.mono (show k + 2 ≤ k + 6 by omega)) hr (by rfl) gOU kOU bOU .nil pass0 (pa_cons (pv 0) (pa_cons (pv 1) pa_nil))))))))), ?_⟩
    refine ⟨v1, rfl, v1, .ty "tuple", _, .type "tuple", _, rfl, .ty "tuple", hd1.ty, kit_t d1, _, rfl, ?_⟩
    cases ht : isT d1 with
    | false =>
      have hq := hq _ (Same.refl H)
      rw [show countB d1 d2 = false by cases d1 <;> simp_all [countB, isT]] at hq
      exact iteT (iteT hq)
    | true =>
      obtain ⟨ds, rfl⟩ := isT_tup ht
      cases hd1 with
      | @tup a xs _ hn e da =>
        have hl : xs.length ≤ 2000 := by rw [da.length]; exact hw1
        refine iteF ⟨.ref a, rfl, a, rfl, ⟨xs, SqT.of e⟩, fun D nD => ?_⟩
        refine lc_it (walk_tup (xs := xs)) (fun i Hz => Same H Hz ∧ Hz D = some (.lst (((ds.take i).map isRg).map V.bl))) ⟨same_new nD, upd_same⟩ (fun i Hz _ z => SqT.of (z.1 _ _ e)) ?_ ?_
        · rintro i x Hz H2 hi ⟨sz, hD⟩ ⟨rfl, hx⟩
          obtain ⟨d3, e2, dv⟩ := da.at hx
          refine ⟨rfl, iteT (B := True) ⟨x, rfl, x, g, d3, rfl, dv.same sz, _, hD, ?_, fun b o eb => ?_, ?_⟩⟩
          · simp only [List.length_map, List.length_take]
            exact small3000 (by omega)
          · rw [upd_ne (ne_of_none eb nD)]
            exact sz b o eb
          · rw [all_take e2, List.map_append]
            exact upd_same
        · rintro Hz ⟨sz, hD⟩
          rw [da.length, List.take_length] at hD
          refine ⟨D, ds.map isRg, rfl, SqL.of hD, _, rfl, ?_⟩
          rw [all_id]
          cases hb : ds.all isRg with
          | false =>
            have hq := hq _ sz
            rw [show countB (.tuple ds) d2 = false by show (_ && _ && _) = _; rw [hb]; rfl] at hq
            exact iteT hq
          | true =>
            obtain ⟨cs, rfl, hcs⟩ := rg_all hb
            have ep := dv_pairs_of da
            refine iteF ⟨v2, rfl, v2, g, d2, rfl, hd2.same sz, hw2, fun H2 s2 => ⟨_, rfl, ?_⟩⟩
            cases hr2 : restB d2 with
            | false =>
              have hq := hq _ (sz.trans s2)
              rw [show countB (.tuple (dPairs cs)) d2 = false by show (_ && _ && _) = _; rw [hb, hr2]; rfl] at hq
              exact iteF hq
            | true =>
              obtain ⟨es, rfl⟩ : ∃ es, d2 = .tuple es := by
                cases d2 with
                | tuple es => exact ⟨es, rfl⟩
                | _ => exact absurd hr2 (by simp [restB])
              have hes : es.all isRd = true := by
                have : (es.all isRd && leftB (intsOf es)) = true := hr2
                exact (Bool.and_eq_true _ _ ▸ this).1
              obtain ⟨ns, rfl⟩ := rd_all hes
              cases hd2 with
              | @tup b ys _ hn2 e3 db =>
                have ey := dv_ints_of db
                subst ey
                refine iteT ⟨.ref a, rfl, .ref b, rfl, a, b, xs, cs, ns, rfl, s2 _ _ (sz _ _ e), (ep.same sz).same s2, s2 _ _ (sz _ _ e3), by rw [← ep.length]; exact hl, by simpa [Wd, dInts] using hw2, hcs, fun H' p zs s3 hp hz => ?_⟩
                have hq := hq _ ((sz.trans s2).trans s3)
                rw [show countB (.tuple (dPairs cs)) (.tuple (dInts ns)) = inB cs ns by show (_ && _ && inB _ _) = _; rw [hb, hr2, pairsOf_pairs, intsOf_ints]; rfl] at hq
                refine ⟨_, .inl ⟨zs, SqL.of hp, rfl⟩, ?_⟩
                rw [Bool.not_not, hz]
                exact hq
end
end M3N

/-! changes of a load, as mathematics -/
namespace KM
/-- how often a letter differs from the one before, the first of all being a -/
def cf : Bool → List Bool → Nat
  | _, [] => 0
  | a, b :: r => (if a = b then 0 else 1) + cf b r
def cnt : List Bool → Nat
  | [] => 0
  | a :: r => cf a r
def cfO : Option Bool → List Bool → Nat
  | none, l => cnt l
  | some a, l => cf a l
/-- the letter of a reading: true for L -/
def lett (lo hi : Int) (r : Int) : Option Bool := if r ≤ lo then some true else if hi ≤ r then some false else none
def lets (lo hi : Int) (ns : List Int) : List Bool := ns.filterMap (lett lo hi)
def chg (ns : List Int) (lo hi : Int) : Nat := cnt (lets lo hi ns)
theorem cf_tri (a b : Bool) : ∀ l : List Bool, cf a l ≤ (if a = b then 0 else 1) + cf b l
  | [] => Nat.zero_le _
  | c :: r => by
    simp only [cf]
    cases a <;> cases b <;> cases c <;> simp <;> omega
theorem cf_mono : ∀ {l m : List Bool}, l.Sublist m → ∀ a, cf a l ≤ cf a m := by
  intro l m h
  induction h with
  | slnil => intro a; exact Nat.le_refl _
  | @cons l m b h ih =>
    intro a
    have h1 := cf_tri a b l
    have h2 := ih b
    simp only [cf]
    omega
  | @cons_cons l m b h ih =>
    intro a
    have h2 := ih b
    simp only [cf]
    omega
theorem cnt_mono : ∀ {l m : List Bool}, l.Sublist m → cnt l ≤ cnt m := by
  intro l m h
  induction h with
  | slnil => exact Nat.le_refl _
  | @cons l m b h ih =>
    cases m with
    | nil =>
      cases h
      exact Nat.le_refl _
    | cons d r =>
      show cnt l ≤ (if b = d then 0 else 1) + cf d r
      have : cnt (d :: r) = cf d r := rfl
      omega
  | @cons_cons l m b h ih => exact cf_mono h b
theorem lets_sub {lo hi lo2 hi2 : Int} (h1 : lo ≤ lo2) (h2 : hi2 ≤ hi) (h3 : lo2 < hi2) : ∀ ns : List Int, (lets lo hi ns).Sublist (lets lo2 hi2 ns)
  | [] => .slnil
  | r :: t => by
    have ih := lets_sub h1 h2 h3 t
    have key : lett lo hi r = none ∨ lett lo hi r = lett lo2 hi2 r := by
      unfold lett
      by_cases a : r ≤ lo
      · right
        rw [if_pos a, if_pos (by omega)]
      · rw [if_neg a]
        by_cases b : hi ≤ r
        · right
          rw [if_pos b, if_neg (by omega), if_pos (by omega)]
        · left
          rw [if_neg b]
    show ((r :: t).filterMap (lett lo hi)).Sublist ((r :: t).filterMap (lett lo2 hi2))
    rw [List.filterMap_cons, List.filterMap_cons]
    rcases key with e | e
    · rw [e]
      dsimp only
      cases lett lo2 hi2 r with
      | none => exact ih
      | some b => exact .cons _ ih
    · rw [← e]
      cases lett lo hi r with
      | none => exact ih
      | some b => exact .cons_cons _ ih
theorem chg_range {lo hi lo2 hi2 : Int} (h1 : lo ≤ lo2) (h2 : hi2 ≤ hi) (h3 : lo2 < hi2) (ns : List Int) : chg ns lo hi ≤ chg ns lo2 hi2 := cnt_mono (lets_sub h1 h2 h3 ns)
theorem chg_sub {l m : List Int} (h : l.Sublist m) (lo hi : Int) : chg l lo hi ≤ chg m lo hi := cnt_mono (h.filterMap _)
theorem chg_put (ns : List Int) (k : Nat) (v lo hi : Int) : chg ns lo hi ≤ chg (ns.take k ++ [v] ++ ns.drop k) lo hi := by
  refine chg_sub ?_ lo hi
  have e : ns = ns.take k ++ ns.drop k := (List.take_append_drop k ns).symm
  have h1 : (ns.take k).Sublist (ns.take k ++ [v]) := List.sublist_append_left _ _
  have h2 := h1.append (List.Sublist.refl (ns.drop k))
  rw [List.take_append_drop] at h2
  exact h2
theorem lets_drop {lo hi : Int} {ns : List Int} {i : Nat} {r : Int} (h : ns[i]? = some r) : lets lo hi (ns.drop i) = (match lett lo hi r with | none => lets lo hi (ns.drop (i + 1)) | some b => b :: lets lo hi (ns.drop (i + 1))) := by
  obtain ⟨h1, h2⟩ := List.getElem?_eq_some_iff.mp h
  rw [List.drop_eq_getElem_cons h1, h2]
  unfold lets
  rw [List.filterMap_cons]
  cases lett lo hi r <;> rfl
theorem lets_take {lo hi : Int} {ns : List Int} {i : Nat} {r : Int} (h : ns[i]? = some r) : lets lo hi (ns.take (i + 1)) = (match lett lo hi r with | none => lets lo hi (ns.take i) | some b => lets lo hi (ns.take i) ++ [b]) := by
  rw [List.take_add_one, h]
  unfold lets
  rw [List.filterMap_append]
  show _ ++ List.filterMap _ [r] = _
  rw [List.filterMap_cons]
  cases lett lo hi r with
  | none => simp
  | some b => rfl
theorem lets_len (lo hi : Int) (ns : List Int) : (lets lo hi ns).length ≤ ns.length := List.length_filterMap_le _ _
/-- the number of turns of a zip with itself, one on, whose two differ -/
theorem cnt_drop {l : List Bool} {i : Nat} {a b : Bool} (h1 : l[i]? = some a) (h2 : l[i + 1]? = some b) : cnt (l.drop i) = (if a = b then 0 else 1) + cnt (l.drop (i + 1)) := by
  obtain ⟨k1, e1⟩ := List.getElem?_eq_some_iff.mp h1
  obtain ⟨k2, e2⟩ := List.getElem?_eq_some_iff.mp h2
  rw [List.drop_eq_getElem_cons k1, e1, List.drop_eq_getElem_cons k2, e2]
  rfl
theorem cnt_end {l : List Bool} {i : Nat} (h : l.length ≤ i + 1) : cnt (l.drop i) = 0 := by
  have : (l.drop i).length ≤ 1 := by rw [List.length_drop]; omega
  match l.drop i, this with
  | [], _ => rfl
  | [_], _ => rfl
end KM

/-! changes decide the half-cycles, as mathematics -/
namespace RC
open KM PM RM RN
/-- a range holds another one -/
def hl (lo hi : Int) (r : Int × Int) : Bool := decide (r.1 ≤ lo) && decide (hi ≤ r.2)
def nh (lo hi : Int) (rs : List (Int × Int)) : Nat := rs.countP (hl lo hi)
def b1 (b : Bool) : Nat := if b = true then 1 else 0
theorem nh_cons (lo hi : Int) (r : Int × Int) (rs : List (Int × Int)) : nh lo hi (r :: rs) = b1 (hl lo hi r) + nh lo hi rs := by
  unfold nh b1
  rw [List.countP_cons]
  omega
theorem nh_app (lo hi : Int) (rs ss : List (Int × Int)) : nh lo hi (rs ++ ss) = nh lo hi rs + nh lo hi ss := List.countP_append
theorem nh_perm {lo hi : Int} {rs ss : List (Int × Int)} (h : rs.Perm ss) : nh lo hi rs = nh lo hi ss := h.countP_eq _
/-- a letter is read, some before -/
def cl (lo hi : Int) (o : Option Bool) (ns : List Int) : Nat := cfO o (lets lo hi ns)
def d2 (o : Option Bool) (b : Bool) : Nat := match o with
  | none => 0
  | some a => if a = b then 0 else 1
theorem cl_nil (lo hi : Int) (o : Option Bool) : cl lo hi o [] = 0 := by cases o <;> rfl
theorem cl_cons (lo hi : Int) (o : Option Bool) (x : Int) (ns : List Int) : cl lo hi o (x :: ns) = match lett lo hi x with
    | none => cl lo hi o ns
    | some b => d2 o b + cl lo hi (some b) ns := by
  unfold cl lets
  rw [List.filterMap_cons]
  cases lett lo hi x with
  | none => rfl
  | some b =>
    cases o with
    | none => show cf b _ = 0 + cf b _; omega
    | some a => rfl
theorem lett_lo {lo hi x : Int} (h : x ≤ lo) : lett lo hi x = some true := if_pos h
theorem lett_hi {lo hi x : Int} (h0 : lo < hi) (h : hi ≤ x) : lett lo hi x = some false := by unfold lett; rw [if_neg (by omega), if_pos h]
theorem lett_no {lo hi x : Int} (h1 : lo < x) (h2 : x < hi) : lett lo hi x = none := by unfold lett; rw [if_neg (by omega), if_neg (by omega)]
theorem lett3 (lo hi x : Int) (h0 : lo < hi) : (x ≤ lo ∧ lett lo hi x = some true) ∨ (hi ≤ x ∧ lett lo hi x = some false) ∨ (lo < x ∧ x < hi ∧ lett lo hi x = none) := by
  by_cases a : x ≤ lo
  · exact .inl ⟨a, lett_lo a⟩
  · by_cases b : hi ≤ x
    · exact .inr (.inl ⟨b, lett_hi h0 b⟩)
    · exact .inr (.inr ⟨by omega, by omega, lett_no (by omega) (by omega)⟩)
theorem hl_iff {lo hi : Int} {a b : Int} : hl lo hi (a, b) = decide (a ≤ lo ∧ hi ≤ b) := by
  unfold hl
  by_cases h1 : a ≤ lo <;> by_cases h2 : hi ≤ b <;> simp [h1, h2]
theorem four_up {lo hi a b c d : Int} (h0 : lo < hi) (post : List Int) (o : Option Bool) (h1 : a ≤ c) (h2 : c < b) (h3 : b ≤ d) : cl lo hi o (a :: b :: c :: d :: post) = cl lo hi o (a :: d :: post) + 2 * b1 (hl lo hi (c, b)) := by
  rw [hl_iff]
  simp only [cl_cons]
  rcases lett3 lo hi a h0 with ⟨x1, e1⟩ | ⟨x1, e1⟩ | ⟨x1, y1, e1⟩ <;> rcases lett3 lo hi b h0 with ⟨x2, e2⟩ | ⟨x2, e2⟩ | ⟨x2, y2, e2⟩ <;> rcases lett3 lo hi c h0 with ⟨x3, e3⟩ | ⟨x3, e3⟩ | ⟨x3, y3, e3⟩ <;> rcases lett3 lo hi d h0 with ⟨x4, e4⟩ | ⟨x4, e4⟩ | ⟨x4, y4, e4⟩ <;> first
    | (exfalso; omega)
    | (rw [decide_eq_true (by omega), e1, e2, e3, e4]; simp only [d2, b1]; cases o with
        | none => simp <;> omega
        | some p => cases p <;> simp <;> omega)
    | (rw [decide_eq_false (by omega), e1, e2, e3, e4]; simp only [d2, b1]; cases o with
        | none => simp
        | some p => cases p <;> simp)
theorem four_down {lo hi a b c d : Int} (h0 : lo < hi) (post : List Int) (o : Option Bool) (h1 : c ≤ a) (h2 : b < c) (h3 : d ≤ b) : cl lo hi o (a :: b :: c :: d :: post) = cl lo hi o (a :: d :: post) + 2 * b1 (hl lo hi (b, c)) := by
  rw [hl_iff]
  simp only [cl_cons]
  rcases lett3 lo hi a h0 with ⟨x1, e1⟩ | ⟨x1, e1⟩ | ⟨x1, y1, e1⟩ <;> rcases lett3 lo hi b h0 with ⟨x2, e2⟩ | ⟨x2, e2⟩ | ⟨x2, y2, e2⟩ <;> rcases lett3 lo hi c h0 with ⟨x3, e3⟩ | ⟨x3, e3⟩ | ⟨x3, y3, e3⟩ <;> rcases lett3 lo hi d h0 with ⟨x4, e4⟩ | ⟨x4, e4⟩ | ⟨x4, y4, e4⟩ <;> first
    | (exfalso; omega)
    | (rw [decide_eq_true (by omega), e1, e2, e3, e4]; simp only [d2, b1]; cases o with
        | none => simp <;> omega
        | some p => cases p <;> simp <;> omega)
    | (rw [decide_eq_false (by omega), e1, e2, e3, e4]; simp only [d2, b1]; cases o with
        | none => simp
        | some p => cases p <;> simp)
theorem cl_step {lo hi : Int} (h0 : lo < hi) {p q : List Int} {c : Int × Int} (h : Step p c q) : ZZ p → ∀ o, cl lo hi o p = cl lo hi o q + 2 * b1 (hl lo hi c) := by
  induction h with
  | @here a b c d post t =>
    intro z o
    rcases (taken_iff z.four).mp t with ⟨x1, x2, x3, x4, x5⟩ | ⟨x1, x2, x3, x4, x5⟩
    · rw [rg_down x2]; exact four_up h0 post o x4 x2 x5
    · rw [rg_up x2]; exact four_down h0 post o x4 x2 x5
  | @there x p q cy s ih =>
    intro z o
    rw [cl_cons, cl_cons]
    cases lett lo hi x with
    | none => exact ih z.tail o
    | some b =>
      have := ih z.tail (some b)
      show d2 o b + cl lo hi (some b) p = d2 o b + cl lo hi (some b) q + _
      omega
theorem cl_run {lo hi : Int} (h0 : lo < hi) {p q : List Int} {cs : List (Int × Int)} (h : Run p cs q) : ZZ p → ∀ o, cl lo hi o p = cl lo hi o q + 2 * nh lo hi cs := by
  induction h with
  | nil p => intro _ o; rfl
  | cons s _ ih =>
    intro z o
    rw [cl_step h0 s z o, ih (ZZ.step s z) o, nh_cons]
    omega
/-! the load and its turning points -/
theorem cl_same {lo hi : Int} (o : Option Bool) (a : Int) (l : List Int) : cl lo hi o (a :: a :: l) = cl lo hi o (a :: l) := by
  simp only [cl_cons]
  cases lett lo hi a with
  | none => rfl
  | some b => simp [d2]
theorem cl_btw {lo hi : Int} (h0 : lo < hi) (o : Option Bool) {b a r : Int} (l : List Int) (h : Btw a b r) : cl lo hi o (b :: a :: r :: l) = cl lo hi o (b :: r :: l) := by
  simp only [cl_cons]
  rcases lett3 lo hi a h0 with ⟨x1, e1⟩ | ⟨x1, e1⟩ | ⟨x1, y1, e1⟩ <;> rcases lett3 lo hi b h0 with ⟨x2, e2⟩ | ⟨x2, e2⟩ | ⟨x2, y2, e2⟩ <;> rcases lett3 lo hi r h0 with ⟨x3, e3⟩ | ⟨x3, e3⟩ | ⟨x3, y3, e3⟩ <;> first
    | (exfalso; omega)
    | (rw [e1, e2, e3]; done)
    | (rw [e1, e2, e3]; cases o with
        | none => simp [d2]
        | some p => cases p <;> simp [d2])
theorem cl_tq {lo hi : Int} (h0 : lo < hi) : ∀ (l : List Int) (o : Option Bool) (b a : Int), cl lo hi o (b :: tq b a l) = cl lo hi o (b :: a :: l)
  | [], _, _, _ => rfl
  | r :: l, o, b, a => by
    simp only [tq]
    by_cases e : a = r
    · rw [if_pos e, cl_tq h0 l o b a, ← e, cl_cons lo hi o b (a :: a :: l), cl_cons lo hi o b (a :: l)]
      cases lett lo hi b with
      | none => exact (cl_same _ _ _).symm
      | some x => exact congrArg _ (cl_same _ _ _).symm
    · rw [if_neg e]
      by_cases bt : Btw a b r
      · rw [if_pos bt, cl_tq h0 l o b r, cl_btw h0 o l bt]
      · rw [if_neg bt, cl_cons lo hi o b (a :: tq a r l), cl_cons lo hi o b (a :: r :: l)]
        cases lett lo hi b with
        | none => exact cl_tq h0 l o a r
        | some x => exact congrArg (d2 o x + ·) (cl_tq h0 l (some x) a r)
theorem cl_ts {lo hi : Int} (h0 : lo < hi) : ∀ (l : List Int) (o : Option Bool) (a : Int), cl lo hi o (ts a l) = cl lo hi o (a :: l)
  | [], _, _ => rfl
  | r :: l, o, a => by
    simp only [ts]
    by_cases e : a = r
    · rw [if_pos e, cl_ts h0 l o a, ← e, cl_same]
    · rw [if_neg e, cl_tq h0 l o a r]
theorem cl_tp {lo hi : Int} (h0 : lo < hi) (ns : List Int) : cl lo hi none (tp ns) = chg ns lo hi := by
  cases ns with
  | nil => rfl
  | cons a l => exact cl_ts h0 l none a
/-! the rest: swings that grow and then shrink -/
def In (u v : Int) (ps : List Int) : Prop := ∀ x ∈ ps, u ≤ x ∧ x ≤ v
/-- each swing within the one before -/
def Con : List Int → Prop
  | x :: y :: z :: r => ((y < x ∧ y < z ∧ z ≤ x) ∨ (x < y ∧ z < y ∧ x ≤ z)) ∧ Con (y :: z :: r)
  | _ => True
theorem Con.inside : ∀ {r : List Int} {x y : Int}, Con (x :: y :: r) → x ≠ y → In (if x < y then x else y) (if x < y then y else x) (x :: y :: r)
  | [], x, y, _, h => by
    intro w hw
    rcases List.mem_cons.mp hw with e | hw
    · subst e; split <;> omega
    · rcases List.mem_cons.mp hw with e | hw
      · subst e; split <;> omega
      · exact absurd hw (List.not_mem_nil)
  | z :: r, x, y, c, h => by
    have ih := Con.inside c.2 (by have := c.1; omega)
    intro w hw
    have c1 := c.1
    rcases List.mem_cons.mp hw with e | hw
    · subst e; split <;> omega
    · have := ih w hw
      by_cases e1 : y < z
      · rw [if_pos e1, if_pos e1] at this
        rw [if_neg (by omega), if_neg (by omega)]
        omega
      · rw [if_neg e1, if_neg e1] at this
        rw [if_pos (by omega), if_pos (by omega)]
        omega
theorem nf_con : ∀ {r : List Int} {x y z : Int}, ZZ (x :: y :: z :: r) → NF (x :: y :: z :: r) → ((y < x ∧ z ≤ x) ∨ (x < y ∧ x ≤ z)) → Con (x :: y :: z :: r)
  | [], x, y, z, zz, _, h => ⟨by have := zz.1; omega, trivial⟩
  | w :: r, x, y, z, zz, n, h => by
    have z1 := zz.1
    have z2 := zz.2.1
    refine ⟨by omega, nf_con zz.2 (fun c q s => n _ _ (.there s)) ?_⟩
    have nt : ¬ Taken x y z w := fun t => n _ _ (.here t)
    rw [taken_iff zz.four] at nt
    omega
theorem one_letter {lo hi : Int} {b : Bool} : ∀ (l : List Int) (o : Option Bool), (o = none ∨ o = some b) → (∀ x ∈ l, lett lo hi x = none ∨ lett lo hi x = some b) → cl lo hi o l = 0
  | [], o, _, _ => cl_nil lo hi o
  | x :: l, o, h1, h2 => by
    have ih := fun o h => one_letter l o h (fun x hx => h2 x (List.mem_cons_of_mem _ hx))
    rw [cl_cons]
    rcases h2 x List.mem_cons_self with e | e
    · rw [e]; exact ih o h1
    · rw [e]
      show d2 o b + cl lo hi (some b) l = 0
      rw [ih _ (.inr rfl)]
      rcases h1 with e | e
      · rw [e]; rfl
      · rw [e]; simp [d2]
theorem con_one {lo hi x y : Int} (h0 : lo < hi) {r : List Int} (h : In (if x < y then x else y) (if x < y then y else x) (x :: y :: r)) (ne : x ≠ y) : cl lo hi none (x :: y :: r) = b1 (hl lo hi (rg x y)) + cl lo hi none (y :: r) := by
  have out : ∀ u v, u < v → In u v (x :: y :: r) → hl lo hi (u, v) = false → cl lo hi none (x :: y :: r) = 0 ∧ cl lo hi none (y :: r) = 0 := by
    intro u v huv hin hn
    rw [hl_iff] at hn
    have hn := of_decide_eq_false hn
    by_cases a : u ≤ lo
    · have hb : v < hi := by omega
      have key : ∀ w ∈ x :: y :: r, lett lo hi w = none ∨ lett lo hi w = some true := fun w hw => by
        have := hin w hw
        rcases lett3 lo hi w h0 with ⟨_, e⟩ | ⟨z, e⟩ | ⟨_, _, e⟩
        · exact .inr e
        · omega
        · exact .inl e
      exact ⟨one_letter _ _ (.inl rfl) key, one_letter _ _ (.inl rfl) fun w hw => key w (List.mem_cons_of_mem _ hw)⟩
    · have key : ∀ w ∈ x :: y :: r, lett lo hi w = none ∨ lett lo hi w = some false := fun w hw => by
        have := hin w hw
        rcases lett3 lo hi w h0 with ⟨z, e⟩ | ⟨z, e⟩ | ⟨_, _, e⟩
        · omega
        · exact .inr e
        · exact .inl e
      exact ⟨one_letter _ _ (.inl rfl) key, one_letter _ _ (.inl rfl) fun w hw => key w (List.mem_cons_of_mem _ hw)⟩
  rcases (show x < y ∨ y < x by omega) with h1 | h1
  · rw [if_pos h1, if_pos h1] at h
    rw [rg_up h1]
    cases e : hl lo hi (x, y) with
    | false => obtain ⟨e1, e2⟩ := out x y h1 h e; rw [e1, e2]; rfl
    | true =>
      rw [hl_iff] at e
      have e := of_decide_eq_true e
      rw [cl_cons lo hi none x, cl_cons lo hi none y, lett_lo e.1, lett_hi h0 e.2]
      show d2 none true + cl lo hi (some true) (y :: r) = b1 true + (d2 none false + cl lo hi (some false) r)
      rw [cl_cons, lett_hi h0 e.2]
      simp [d2, b1]
  · rw [if_neg (by omega), if_neg (by omega)] at h
    rw [rg_down h1]
    cases e : hl lo hi (y, x) with
    | false => obtain ⟨e1, e2⟩ := out y x h1 h e; rw [e1, e2]; rfl
    | true =>
      rw [hl_iff] at e
      have e := of_decide_eq_true e
      rw [cl_cons lo hi none x, cl_cons lo hi none y, lett_lo e.1, lett_hi h0 e.2]
      show d2 none false + cl lo hi (some false) (y :: r) = b1 true + (d2 none true + cl lo hi (some true) r)
      rw [cl_cons, lett_lo e.1]
      simp [d2, b1]
theorem wide_one {lo hi x y z : Int} (h0 : lo < hi) {r : List Int} (h : (y < x ∧ x < z) ∨ (x < y ∧ z < x)) : cl lo hi none (x :: y :: z :: r) = b1 (hl lo hi (rg x y)) + cl lo hi none (y :: z :: r) := by
  rcases h with ⟨h1, h2⟩ | ⟨h1, h2⟩
  · rw [rg_down h1, hl_iff]
    simp only [cl_cons]
    rcases lett3 lo hi x h0 with ⟨x1, e1⟩ | ⟨x1, e1⟩ | ⟨x1, y1, e1⟩ <;> rcases lett3 lo hi y h0 with ⟨x2, e2⟩ | ⟨x2, e2⟩ | ⟨x2, y2, e2⟩ <;> rcases lett3 lo hi z h0 with ⟨x3, e3⟩ | ⟨x3, e3⟩ | ⟨x3, y3, e3⟩ <;> first
      | (exfalso; omega)
      | (rw [decide_eq_true (by omega), e1, e2, e3]; simp [d2, b1]; done)
      | (rw [decide_eq_false (by omega), e1, e2, e3]; simp [d2, b1]; done)
  · rw [rg_up h1, hl_iff]
    simp only [cl_cons]
    rcases lett3 lo hi x h0 with ⟨x1, e1⟩ | ⟨x1, e1⟩ | ⟨x1, y1, e1⟩ <;> rcases lett3 lo hi y h0 with ⟨x2, e2⟩ | ⟨x2, e2⟩ | ⟨x2, y2, e2⟩ <;> rcases lett3 lo hi z h0 with ⟨x3, e3⟩ | ⟨x3, e3⟩ | ⟨x3, y3, e3⟩ <;> first
      | (exfalso; omega)
      | (rw [decide_eq_true (by omega), e1, e2, e3]; simp [d2, b1]; done)
      | (rw [decide_eq_false (by omega), e1, e2, e3]; simp [d2, b1]; done)
theorem nf_nh {lo hi : Int} (h0 : lo < hi) : ∀ (ps : List Int), ZZ ps → NF ps → cl lo hi none ps = nh lo hi (sw ps)
  | [], _, _ => rfl
  | [x], _, _ => by
    rw [cl_cons]
    cases lett lo hi x <;> rfl
  | [x, y], zz, _ => by
    have zz : x ≠ y := zz
    show _ = nh lo hi [rg x y]
    rw [nh_cons, con_one h0 (Con.inside (r := []) (x := x) (y := y) (show Con [x, y] from trivial) zz) zz]
    show _ + cl lo hi none [y] = _ + 0
    rw [cl_cons]
    cases lett lo hi y <;> rfl
  | x :: y :: z :: r, zz, n => by
    have ih := nf_nh h0 (y :: z :: r) zz.2 (fun c q s => n _ _ (.there s))
    show _ = nh lo hi (rg x y :: sw (y :: z :: r))
    rw [nh_cons, ← ih]
    have z1 := zz.1
    by_cases h : (y < x ∧ z ≤ x) ∨ (x < y ∧ x ≤ z)
    · exact con_one h0 (Con.inside (nf_con zz n h) (by omega)) (by omega)
    · exact wide_one h0 (by omega)
/-- the changes of a load are the half-cycles that hold the range -/
theorem chg_count {lo hi : Int} (h0 : lo < hi) {ns rs : List Int} {cs : List (Int × Int)} (h : Run (tp ns) cs rs) (n : NF rs) : chg ns lo hi = 2 * nh lo hi cs + nh lo hi (sw rs) := by
  rw [← cl_tp h0, cl_run h0 h (tp_zz ns), nf_nh h0 rs (h.zz (tp_zz ns)) n]
  omega
/-! just a range: the second difference -/
theorem just_one (lo hi : Int) (r : Int × Int) : b1 (decide (r = (lo, hi))) + b1 (hl (lo - 1) hi r) + b1 (hl lo (hi + 1) r) = b1 (hl lo hi r) + b1 (hl (lo - 1) (hi + 1) r) := by
  obtain ⟨u, v⟩ := r
  simp only [hl_iff]
  have e : decide ((u, v) = (lo, hi)) = decide (u = lo ∧ v = hi) := by simp
  rw [e]
  simp only [b1, decide_eq_true_eq]
  repeat' split
  all_goals omega
theorem just {lo hi : Int} : ∀ rs : List (Int × Int), rs.count (lo, hi) + nh (lo - 1) hi rs + nh lo (hi + 1) rs = nh lo hi rs + nh (lo - 1) (hi + 1) rs
  | [] => rfl
  | r :: rs => by
    have ih := just (lo := lo) (hi := hi) rs
    have h1 := just_one lo hi r
    rw [nh_cons, nh_cons, nh_cons, nh_cons, List.count_cons]
    have e : (if (r == (lo, hi)) = true then 1 else 0) = b1 (decide (r = (lo, hi))) := by
      unfold b1
      by_cases z : r = (lo, hi)
      · simp [z]
      · simp [z]
    rw [e]
    omega
end RC

/-! the half-cycles of two loads are the same exactly if their changes are -/
namespace RE
open KM PM RM RN RC
/-- of a load: its half-cycles, sorted -/
structure Hc (ns : List Int) (es : List (Int × Int)) : Prop where
  ex : ∃ cs ds rs, Run (tp ns) cs rs ∧ NF rs ∧ ds.Perm cs ∧ es.Perm (ds ++ ds ++ sw rs)
  srt : es.Pairwise Le
theorem Hc.chg {ns : List Int} {es : List (Int × Int)} (h : Hc ns es) {lo hi : Int} (h0 : lo < hi) : chg ns lo hi = nh lo hi es := by
  obtain ⟨cs, ds, rs, run, nf, p1, p2⟩ := h.ex
  rw [chg_count h0 run nf, nh_perm p2, nh_app, nh_app, nh_perm p1]
  omega
/-- every half-cycle lies within the readings -/
def InR (u v : Int) (r : Int × Int) : Prop := u ≤ r.1 ∧ r.1 < r.2 ∧ r.2 ≤ v
theorem rg_in {u v a b : Int} (ha : u ≤ a ∧ a ≤ v) (hb : u ≤ b ∧ b ≤ v) (ne : a ≠ b) : InR u v (rg a b) := by
  rcases (show a < b ∨ b < a by omega) with h | h
  · rw [rg_up h]; exact ⟨ha.1, h, hb.2⟩
  · rw [rg_down h]; exact ⟨hb.1, h, ha.2⟩
theorem step_in {u v : Int} {p q : List Int} {c : Int × Int} (h : Step p c q) : ZZ p → (∀ x ∈ p, u ≤ x ∧ x ≤ v) → InR u v c ∧ ∀ x ∈ q, u ≤ x ∧ x ≤ v := by
  induction h with
  | @here a b c d post t =>
    intro z hb
    have z1 := z.1
    refine ⟨rg_in (hb b (by simp)) (hb c (by simp)) (by omega), fun x hx => ?_⟩
    rcases List.mem_cons.mp hx with e | hx
    · exact hb x (by simp [e])
    · rcases List.mem_cons.mp hx with e | hx
      · exact hb x (by simp [e])
      · exact hb x (by simp [hx])
  | @there x p q cy s ih =>
    intro z hb
    obtain ⟨h1, h2⟩ := ih z.tail fun y hy => hb y (List.mem_cons_of_mem _ hy)
    refine ⟨h1, fun y hy => ?_⟩
    rcases List.mem_cons.mp hy with e | hy
    · exact hb y (by simp [e])
    · exact h2 y hy
theorem run_in {u v : Int} {p q : List Int} {cs : List (Int × Int)} (h : Run p cs q) : ZZ p → (∀ x ∈ p, u ≤ x ∧ x ≤ v) → (∀ c ∈ cs, InR u v c) ∧ ∀ x ∈ q, u ≤ x ∧ x ≤ v := by
  induction h with
  | nil p => exact fun _ hb => ⟨fun _ z => (List.not_mem_nil z).elim, hb⟩
  | cons s _ ih =>
    intro z hb
    obtain ⟨h1, h2⟩ := step_in s z hb
    obtain ⟨h3, h4⟩ := ih (ZZ.step s z) h2
    refine ⟨fun c hc => ?_, h4⟩
    rcases List.mem_cons.mp hc with e | hc
    · rw [e]; exact h1
    · exact h3 c hc
theorem sw_in {u v : Int} : ∀ {ps : List Int}, ZZ ps → (∀ x ∈ ps, u ≤ x ∧ x ≤ v) → ∀ r ∈ sw ps, InR u v r
  | [], _, _, r, h => by simp [sw] at h
  | [_], _, _, r, h => by simp [sw] at h
  | x :: y :: l, z, hb, r, h => by
    rcases List.mem_cons.mp (show r ∈ rg x y :: sw (y :: l) from h) with e | h
    · rw [e]; exact rg_in (hb x (by simp)) (hb y (by simp)) (zz_cons z)
    · exact sw_in z.tail (fun w hw => hb w (List.mem_cons_of_mem _ hw)) r h
theorem Hc.inr {u v : Int} {ns : List Int} {es : List (Int × Int)} (h : Hc ns es) (hb : ∀ x ∈ ns, u ≤ x ∧ x ≤ v) : ∀ r ∈ es, InR u v r := by
  obtain ⟨cs, ds, rs, run, nf, p1, p2⟩ := h.ex
  obtain ⟨h1, h2⟩ := run_in run (tp_zz ns) fun x hx => hb x (tp_mem hx)
  intro r hr
  rcases List.mem_append.mp (p2.mem_iff.mp hr) with z | z
  · rcases List.mem_append.mp z with z | z
    · exact h1 r (p1.mem_iff.mp z)
    · exact h1 r (p1.mem_iff.mp z)
  · exact sw_in (run.zz (tp_zz ns)) h2 r z
/-- two loads within u..v -/
theorem same_iff {u v : Int} {ns ms : List Int} {es fs : List (Int × Int)} (h : Hc ns es) (g : Hc ms fs) (hb : ∀ x ∈ ns, u ≤ x ∧ x ≤ v) (gb : ∀ x ∈ ms, u ≤ x ∧ x ≤ v) :
    es = fs ↔ ∀ lo hi : Int, u - 1 ≤ lo → lo < hi → hi ≤ v + 1 → KM.chg ns lo hi = KM.chg ms lo hi := by
  constructor
  · intro e lo hi _ h0 _
    rw [h.chg h0, g.chg h0, e]
  · intro e
    refine sorted_same (List.perm_iff_count.mpr fun r => ?_) h.srt g.srt
    obtain ⟨lo, hi⟩ := r
    by_cases z : u ≤ lo ∧ lo < hi ∧ hi ≤ v
    · have j1 := just (lo := lo) (hi := hi) es
      have j2 := just (lo := lo) (hi := hi) fs
      have k : ∀ a b : Int, u - 1 ≤ a → a < b → b ≤ v + 1 → nh a b es = nh a b fs := fun a b h1 h2 h3 => by rw [← h.chg h2, ← g.chg h2, e a b h1 h2 h3]
      have k1 := k lo hi (by omega) (by omega) (by omega)
      have k2 := k (lo - 1) hi (by omega) (by omega) (by omega)
      have k3 := k lo (hi + 1) (by omega) (by omega) (by omega)
      have k4 := k (lo - 1) (hi + 1) (by omega) (by omega) (by omega)
      omega
    · rw [List.count_eq_zero.mpr fun m => z (show u ≤ lo ∧ lo < hi ∧ hi ≤ v from h.inr hb (lo, hi) m), List.count_eq_zero.mpr fun m => z (show u ≤ lo ∧ lo < hi ∧ hi ≤ v from g.inr gb (lo, hi) m)]
end RE

/-! loads turned round, mapped, repeated, thinned: mathematics -/
namespace K9
open KM PM RM RN RC RE
/-! ### turning points of a load turned round -/
theorem tq_same : ∀ (pre : List Int) (p q x : Int) (post : List Int), tq p q (pre ++ x :: x :: post) = tq p q (pre ++ x :: post)
  | [], p, q, x, post => by
    show tq p q (x :: x :: post) = tq p q (x :: post)
    simp only [tq]
    by_cases e : q = x
    · subst e
      simp only [if_true]
    · rw [if_neg e, if_neg e]
      simp only [if_true]
  | y :: pre, p, q, x, post => by
    show tq p q (y :: (pre ++ x :: x :: post)) = tq p q (y :: (pre ++ x :: post))
    simp only [tq, tq_same pre]
theorem tq_btw0 {p b a r : Int} (post : List Int) (h : Btw a b r) : tq p b (a :: r :: post) = tq p b (r :: post) := by
  have h1 : ¬ b = a := by omega
  have h2 : ¬ b = r := by omega
  have h3 : ¬ a = r := by omega
  simp only [tq]
  rw [if_neg h1, if_neg h2]
  by_cases c : Btw b p a
  · rw [if_pos c, if_neg h3, if_pos (show Btw a p r by omega), if_pos (show Btw b p r by omega)]
  · rw [if_neg c, if_neg (show ¬ Btw b p r by omega)]
    rw [if_neg h3, if_pos h]
theorem tq_btw : ∀ (pre : List Int) (p q b a r : Int) (post : List Int), Btw a b r → tq p q (pre ++ b :: a :: r :: post) = tq p q (pre ++ b :: r :: post)
  | [], p, q, b, a, r, post, h => by
    show tq p q (b :: a :: r :: post) = tq p q (b :: r :: post)
    have k : ∀ s, tq s b (a :: r :: post) = tq s b (r :: post) := fun s => tq_btw0 post h
    rw [tq, k, k]
    rw [tq.eq_2 p q b (r :: post)]
    by_cases e : q = b
    · rw [if_pos e, if_pos e]
      subst e
      exact k p
    · rw [if_neg e, if_neg e]
  | y :: pre, p, q, b, a, r, post, h => by
    show tq p q (y :: (pre ++ b :: a :: r :: post)) = tq p q (y :: (pre ++ b :: r :: post))
    simp only [tq, tq_btw pre _ _ b a r post h]
theorem ts_same : ∀ (pre : List Int) (q x : Int) (post : List Int), ts q (pre ++ x :: x :: post) = ts q (pre ++ x :: post)
  | [], q, x, post => by
    show ts q (x :: x :: post) = ts q (x :: post)
    simp only [ts]
    by_cases e : q = x
    · subst e
      simp only [if_true]
    · rw [if_neg e, if_neg e]
      simp only [tq, if_true]
  | y :: pre, q, x, post => by
    show ts q (y :: (pre ++ x :: x :: post)) = ts q (y :: (pre ++ x :: post))
    simp only [ts, ts_same pre, tq_same pre]
theorem ts_btw0 {b a r : Int} (post : List Int) (h : Btw a b r) : ts b (a :: r :: post) = ts b (r :: post) := by
  simp only [ts]
  rw [if_neg (show ¬ b = a by omega), if_neg (show ¬ b = r by omega)]
  simp only [tq]
  rw [if_neg (show ¬ a = r by omega), if_pos h]
theorem ts_btw : ∀ (pre : List Int) (q b a r : Int) (post : List Int), Btw a b r → ts q (pre ++ b :: a :: r :: post) = ts q (pre ++ b :: r :: post)
  | [], q, b, a, r, post, h => by
    show ts q (b :: a :: r :: post) = ts q (b :: r :: post)
    rw [ts, tq_btw0 post h]
    rw [ts.eq_2 q b (r :: post)]
    by_cases e : q = b
    · rw [if_pos e, if_pos e]
      subst e
      exact ts_btw0 post h
    · rw [if_neg e, if_neg e]
  | y :: pre, q, b, a, r, post, h => by
    show ts q (y :: (pre ++ b :: a :: r :: post)) = ts q (y :: (pre ++ b :: r :: post))
    simp only [ts, ts_btw pre _ b a r post h, tq_btw pre _ _ b a r post h]
theorem tp_same (pre : List Int) (x : Int) (post : List Int) : tp (pre ++ x :: x :: post) = tp (pre ++ x :: post) := by
  cases pre with
  | nil =>
    show ts x (x :: post) = ts x post
    simp only [ts, if_true]
  | cons y pre => exact ts_same pre y x post
theorem tp_btw (pre : List Int) {b a r : Int} (post : List Int) (h : Btw a b r) : tp (pre ++ b :: a :: r :: post) = tp (pre ++ b :: r :: post) := by
  cases pre with
  | nil => exact ts_btw0 post h
  | cons y pre => exact ts_btw pre y b a r post h
/-- a reading left out that is no turning point -/
inductive Red : List Int → List Int → Prop
  | nil (l : List Int) : Red l l
  | same (pre : List Int) (x : Int) (post : List Int) {m : List Int} : Red (pre ++ x :: post) m → Red (pre ++ x :: x :: post) m
  | btw (pre : List Int) {b a r : Int} (post : List Int) {m : List Int} : Btw a b r → Red (pre ++ b :: r :: post) m → Red (pre ++ b :: a :: r :: post) m
theorem Red.tp {l m : List Int} (h : Red l m) : tp l = tp m := by
  induction h with
  | nil l => rfl
  | same pre x post _ ih => rw [tp_same, ih]
  | btw pre post hb _ ih => rw [tp_btw pre post hb, ih]
theorem Red.cons {l m : List Int} (h : Red l m) (y : Int) : Red (y :: l) (y :: m) := by
  induction h with
  | nil l => exact .nil _
  | same pre x post _ ih => exact .same (y :: pre) x post ih
  | btw pre post hb _ ih => exact .btw (y :: pre) post hb ih
theorem Red.trans {l m n : List Int} (h : Red l m) (g : Red m n) : Red l n := by
  induction h with
  | nil l => exact g
  | same pre x post _ ih => exact .same pre x post (ih g)
  | btw pre post hb _ ih => exact .btw pre post hb (ih g)
theorem Red.rev {l m : List Int} (h : Red l m) : Red l.reverse m.reverse := by
  induction h with
  | nil l => exact .nil _
  | same pre x post _ ih =>
    have e1 : (pre ++ x :: x :: post).reverse = post.reverse ++ x :: x :: pre.reverse := by simp
    have e2 : (pre ++ x :: post).reverse = post.reverse ++ x :: pre.reverse := by simp
    rw [e1]
    rw [e2] at ih
    exact .same _ x _ ih
  | @btw pre b a r post m hb _ ih =>
    have e1 : (pre ++ b :: a :: r :: post).reverse = post.reverse ++ r :: a :: b :: pre.reverse := by simp
    have e2 : (pre ++ b :: r :: post).reverse = post.reverse ++ r :: b :: pre.reverse := by simp
    rw [e1]
    rw [e2] at ih
    exact .btw _ _ (by omega) ih
theorem red_tq : ∀ (l : List Int) (b a : Int), Red (b :: a :: l) (b :: tq b a l)
  | [], b, a => .nil _
  | r :: l, b, a => by
    simp only [tq]
    by_cases e : a = r
    · rw [if_pos e]
      subst e
      exact .same [b] a l (red_tq l b a)
    · rw [if_neg e]
      by_cases c : Btw a b r
      · rw [if_pos c]
        exact .btw [] l c (red_tq l b r)
      · rw [if_neg c]
        exact (red_tq l a r).cons b
theorem red_ts : ∀ (l : List Int) (a : Int), Red (a :: l) (ts a l)
  | [], a => .nil _
  | r :: l, a => by
    simp only [ts]
    by_cases e : a = r
    · rw [if_pos e]
      subst e
      exact .same [] a l (red_ts l a)
    · rw [if_neg e]
      exact red_tq l a r
theorem red_tp (ns : List Int) : Red ns (tp ns) := by
  cases ns with
  | nil => exact .nil _
  | cons a l => exact red_ts l a
theorem zz_snoc : ∀ {l : List Int} {a b c : Int}, ZZ (l ++ [a, b]) → ((a < b ∧ c < b) ∨ (b < a ∧ b < c)) → ZZ (l ++ [a, b, c])
  | [], a, b, c, _, h => ⟨h, by show b ≠ c; omega⟩
  | [x], a, b, c, z, h => ⟨z.1, h, by show b ≠ c; omega⟩
  | [x, y], a, b, c, z, h => ⟨z.1, z.2.1, h, by show b ≠ c; omega⟩
  | x :: y :: w :: l, a, b, c, z, h => ⟨z.1, zz_snoc (l := y :: w :: l) z.2 h⟩
theorem zz_rev : ∀ {l : List Int}, ZZ l → ZZ l.reverse
  | [], _ => trivial
  | [x], _ => trivial
  | [x, y], z => fun e => z e.symm
  | x :: y :: w :: l, z => by
    have ih := zz_rev (l := y :: w :: l) z.2
    have e : (x :: y :: w :: l).reverse = l.reverse ++ [w, y, x] := by simp
    have e2 : (y :: w :: l).reverse = l.reverse ++ [w, y] := by simp
    rw [e]
    rw [e2] at ih
    exact zz_snoc ih (by have := z.1; omega)
theorem tp_rev (ns : List Int) : tp ns.reverse = (tp ns).reverse := by
  rw [(red_tp ns).rev.tp, zz_tp (zz_rev (tp_zz ns))]
theorem rg_comm (a b : Int) : rg a b = rg b a := by unfold rg; rw [Prod.mk.injEq]; constructor <;> split <;> split <;> omega
theorem taken_rev {a b c d : Int} (h : Taken a b c d) : Taken d c b a := by
  unfold Taken at *
  rw [rg_comm d c, rg_comm c b, rg_comm b a]
  exact ⟨h.2, h.1⟩
theorem step_rev {p q : List Int} {c : Int × Int} (h : Step p c q) : Step p.reverse c q.reverse := by
  induction h with
  | @here a b c d post t =>
    have e1 : (a :: b :: c :: d :: post).reverse = post.reverse ++ [d, c, b, a] := by simp
    have e2 : (a :: d :: post).reverse = post.reverse ++ [d, a] := by simp
    rw [e1, e2, rg_comm b c]
    exact (Step.here (post := []) (taken_rev t)).prefix _
  | @there x p q cy s ih =>
    rw [List.reverse_cons, List.reverse_cons]
    exact ih.suffix [x]
theorem run_rev {p q : List Int} {cs : List (Int × Int)} (h : Run p cs q) : Run p.reverse cs q.reverse := by
  induction h with
  | nil p => exact .nil _
  | cons s _ ih => exact .cons (step_rev s) ih
theorem nf_rev {p : List Int} (h : NF p) : NF p.reverse := fun c q s => by
  have := step_rev s
  rw [List.reverse_reverse] at this
  exact h _ _ this
/-- one count, its cycles sorted -/
structure Cn (ns : List Int) (ds : List (Int × Int)) (rs : List Int) : Prop where
  ex : ∃ cs, Run (tp ns) cs rs ∧ ds.Perm cs
  nf : NF rs
  srt : ds.Pairwise Le
theorem cn_one {ns ms : List Int} {ds es : List (Int × Int)} {rs ss : List Int} (e : tp ns = tp ms) (h : Cn ns ds rs) (g : Cn ms es ss) : ds = es ∧ rs = ss := by
  obtain ⟨cs, r1, p1⟩ := h.ex
  obtain ⟨cs2, r2, p2⟩ := g.ex
  rw [e] at r1
  obtain ⟨e1, e2⟩ := one_count (tp_zz ms) r1 h.nf r2 g.nf
  exact ⟨sorted_same (p1.trans (e2.trans p2.symm)) h.srt g.srt, e1⟩
theorem cn_rev {ns : List Int} {ds es : List (Int × Int)} {rs ss : List Int} (h : Cn ns ds rs) (g : Cn ns.reverse es ss) : es = ds ∧ ss = rs.reverse := by
  obtain ⟨cs, r1, p1⟩ := h.ex
  obtain ⟨cs2, r2, p2⟩ := g.ex
  have r3 := run_rev r1
  rw [← tp_rev] at r3
  obtain ⟨e1, e2⟩ := one_count (tp_zz _) r2 g.nf r3 (nf_rev h.nf)
  exact ⟨sorted_same (p2.trans (e2.trans p1.symm)) g.srt h.srt, e1⟩
/-! ### a load moved, stretched, negated -/
def Str (f : Int → Int) : Prop := (∀ a b, a < b ↔ f a < f b) ∨ (∀ a b, a < b ↔ f b < f a)
theorem str_eq {f : Int → Int} (h : Str f) (a b : Int) : a = b ↔ f a = f b := by
  rcases h with h | h
  · have h1 := h a b
    have h2 := h b a
    omega
  · have h1 := h a b
    have h2 := h b a
    omega
theorem str_btw {f : Int → Int} (h : Str f) (r b a : Int) : Btw r b a ↔ Btw (f r) (f b) (f a) := by
  unfold Btw
  rcases h with h | h
  · rw [h b r, h r a, h a r, h r b]
  · rw [h b r, h r a, h a r, h r b]
    omega
theorem tq_map {f : Int → Int} (h : Str f) : ∀ (l : List Int) (b a : Int), tq (f b) (f a) (l.map f) = (tq b a l).map f
  | [], _, _ => rfl
  | r :: l, b, a => by
    simp only [tq, List.map_cons]
    by_cases e : a = r
    · rw [if_pos e, if_pos ((str_eq h a r).mp e)]
      exact tq_map h l b a
    · rw [if_neg e, if_neg (fun z => e ((str_eq h a r).mpr z))]
      by_cases c : Btw a b r
      · rw [if_pos c, if_pos ((str_btw h a b r).mp c)]
        exact tq_map h l b r
      · rw [if_neg c, if_neg (fun z => c ((str_btw h a b r).mpr z)), List.map_cons, tq_map h l a r]
theorem ts_map {f : Int → Int} (h : Str f) : ∀ (l : List Int) (a : Int), ts (f a) (l.map f) = (ts a l).map f
  | [], _ => rfl
  | r :: l, a => by
    simp only [ts, List.map_cons]
    by_cases e : a = r
    · rw [if_pos e, if_pos ((str_eq h a r).mp e)]
      exact ts_map h l a
    · rw [if_neg e, if_neg (fun z => e ((str_eq h a r).mpr z)), List.map_cons, tq_map h l a r]
theorem tp_map {f : Int → Int} (h : Str f) (ns : List Int) : tp (ns.map f) = (tp ns).map f := by
  cases ns with
  | nil => rfl
  | cons a l => exact ts_map h l a
def mp (f : Int → Int) (r : Int × Int) : Int × Int := rg (f r.1) (f r.2)
theorem rg_map {f : Int → Int} (h : Str f) (a b : Int) : rg (f a) (f b) = mp f (rg a b) := by
  rcases Int.lt_trichotomy a b with z | z | z
  · unfold mp; rw [rg_up z]
  · subst z
    unfold mp rg
    simp
  · unfold mp; rw [rg_down z, rg_comm]
theorem taken_map {f : Int → Int} (h : Str f) {a b c d : Int} (t : Taken a b c d) : Taken (f a) (f b) (f c) (f d) := by
  unfold Taken at *
  rw [rg_map h a b, rg_map h b c, rg_map h c d]
  have key : ∀ u v x y : Int, u ≤ v → x ≤ y → u ≤ x → y ≤ v → ((mp f (u, v)).1 ≤ (mp f (x, y)).1 ∧ (mp f (x, y)).2 ≤ (mp f (u, v)).2) := by
    intro u v x y h1 h2 h3 h4
    have m : ∀ p q, p ≤ q → (f p ≤ f q ∨ f q ≤ f p) := fun p q _ => Int.le_total _ _
    unfold mp rg
    rcases h with h | h
    · have a1 := h v u; have a2 := h y x; have a3 := h x u; have a4 := h v y
      dsimp only
      repeat' split
      all_goals omega
    · have a1 := h v u; have a2 := h y x; have a3 := h x u; have a4 := h v y
      have a5 := h u v; have a6 := h x y; have a7 := h u x; have a8 := h y v
      dsimp only
      repeat' split
      all_goals omega
  have le : ∀ p q : Int, (rg p q).1 ≤ (rg p q).2 := by
    intro p q
    unfold rg
    dsimp only
    split <;> split <;> omega
  exact ⟨key _ _ _ _ (le a b) (le b c) t.1.1 t.1.2, key _ _ _ _ (le c d) (le b c) t.2.1 t.2.2⟩
theorem taken_back {f : Int → Int} (h : Str f) {a b c d : Int} (t : Taken (f a) (f b) (f c) (f d)) : Taken a b c d := by
  have key : ∀ p q x y : Int, (rg (f p) (f q)).1 ≤ (rg (f x) (f y)).1 ∧ (rg (f x) (f y)).2 ≤ (rg (f p) (f q)).2 → (rg p q).1 ≤ (rg x y).1 ∧ (rg x y).2 ≤ (rg p q).2 := by
    intro p q x y
    unfold rg
    rcases h with h | h
    · have a1 := h p q; have a2 := h q p; have a3 := h x y; have a4 := h y x
      have b1 := h p x; have b2 := h x p; have b3 := h p y; have b4 := h y p
      have c1 := h q x; have c2 := h x q; have c3 := h q y; have c4 := h y q
      dsimp only
      repeat' split
      all_goals omega
    · have a1 := h p q; have a2 := h q p; have a3 := h x y; have a4 := h y x
      have b1 := h p x; have b2 := h x p; have b3 := h p y; have b4 := h y p
      have c1 := h q x; have c2 := h x q; have c3 := h q y; have c4 := h y q
      dsimp only
      repeat' split
      all_goals omega
  exact ⟨key _ _ _ _ t.1, key _ _ _ _ t.2⟩
theorem step_map {f : Int → Int} (h : Str f) {p q : List Int} {c : Int × Int} (s : Step p c q) : Step (p.map f) (mp f c) (q.map f) := by
  induction s with
  | @here a b c d post t =>
    rw [← rg_map h]
    exact .here (taken_map h t)
  | there _ ih => exact .there ih
theorem run_map {f : Int → Int} (h : Str f) {p q : List Int} {cs : List (Int × Int)} (r : Run p cs q) : Run (p.map f) (cs.map (mp f)) (q.map f) := by
  induction r with
  | nil p => exact .nil _
  | cons s _ ih => exact .cons (step_map h s) ih
theorem step_back {f : Int → Int} (h : Str f) {p' q : List Int} {c : Int × Int} (s : Step p' c q) : ∀ {p : List Int}, p' = p.map f → ∃ c' q', Step p c' q' := by
  induction s with
  | @here a b c d post t =>
    intro p e
    match p, e with
    | a' :: b' :: c' :: d' :: post', e =>
      simp only [List.map_cons, List.cons.injEq] at e
      obtain ⟨e1, e2, e3, e4, _⟩ := e
      subst e1 e2 e3 e4
      exact ⟨_, _, .here (taken_back h t)⟩
    | [], e => simp at e
    | [_], e => simp at e
    | [_, _], e => simp at e
    | [_, _, _], e => simp at e
  | @there x p1 q1 cy s ih =>
    intro p e
    match p, e with
    | x' :: p', e =>
      rw [List.map_cons] at e
      obtain ⟨c', q', s'⟩ := ih (List.cons.inj e).2
      exact ⟨c', _, .there s'⟩
    | [], e => simp at e
theorem nf_map {f : Int → Int} (h : Str f) {p : List Int} (n : NF p) : NF (p.map f) := fun c q s => by
  obtain ⟨c', q', s'⟩ := step_back h s rfl
  exact n _ _ s'
theorem cn_map {f : Int → Int} (h : Str f) {ns : List Int} {ds es fs : List (Int × Int)} {rs ss : List Int} (g : Cn ns ds rs) (k : Cn (ns.map f) es ss) (p : fs.Perm (ds.map (mp f))) (srt : fs.Pairwise Le) : es = fs ∧ ss = rs.map f := by
  obtain ⟨cs, r1, p1⟩ := g.ex
  obtain ⟨cs2, r2, p2⟩ := k.ex
  have r3 := run_map h r1
  rw [← tp_map h] at r3
  obtain ⟨e1, e2⟩ := one_count (tp_zz _) r2 k.nf r3 (nf_map h g.nf)
  exact ⟨sorted_same (p2.trans (e2.trans ((p1.symm.map _).trans p.symm))) k.srt srt, e1⟩
theorem str_aff {s t : Int} (h : s ≠ 0) : Str fun x => x * s + t := by
  rcases (show 0 < s ∨ s < 0 by omega) with z | z
  · refine .inl fun a b => ?_
    have := Int.mul_lt_mul_right (a := s) (b := a) (c := b) z
    dsimp only
    omega
  · refine .inr fun a b => ?_
    have := Int.mul_lt_mul_right (a := -s) (b := a) (c := b) (by omega)
    rw [Int.mul_neg, Int.mul_neg] at this
    dsimp only
    omega
/-! ### readings repeated -/
theorem tp_rep : ∀ (m : Nat) (pre : List Int) (x : Int), tp (pre ++ List.replicate (m + 1) x) = tp (pre ++ [x])
  | 0, pre, x => rfl
  | m + 1, pre, x => by
    have := tp_same pre x (List.replicate m x)
    rw [show pre ++ List.replicate (m + 1 + 1) x = pre ++ x :: x :: List.replicate m x from rfl, this]
    exact tp_rep m pre x
theorem red_app {l m : List Int} (n : List Int) (h : Red l m) : Red (l ++ n) (m ++ n) := by
  induction h with
  | nil l => exact .nil _
  | same pre x post _ ih =>
    rw [List.append_assoc] at ih ⊢
    exact .same pre x _ ih
  | btw pre post hb _ ih =>
    rw [List.append_assoc] at ih ⊢
    exact .btw pre _ hb ih
/-- what the beginning is, is of no matter if its turning points are the same -/
theorem tp_pre {l m : List Int} (h : tp l = tp m) (n : List Int) : tp (l ++ n) = tp (m ++ n) := by
  rw [(red_app n (red_tp l)).tp, (red_app n (red_tp m)).tp, h]
theorem tp_twice {l m : List Int} (h : tp l = tp m) (k : Nat) (x : Int) : tp (l ++ List.replicate (k + 1) x) = tp (m ++ [x]) := by
  rw [tp_rep, tp_pre h]
/-! ### an upper point lowered -/
theorem cl_sub {lo hi : Int} {l m : List Int} (h : l.Sublist m) (o : Option Bool) : cl lo hi o l ≤ cl lo hi o m := by
  unfold cl
  have h2 : (lets lo hi l).Sublist (lets lo hi m) := h.filterMap _
  cases o with
  | none => exact cnt_mono h2
  | some b => exact cf_mono h2 b
/-- v lies between x and n -/
def Mid (x v n : Int) : Prop := (x ≤ v ∧ v ≤ n) ∨ (n ≤ v ∧ v ≤ x)
theorem mid_let {lo hi x v n : Int} {b : Bool} (h0 : lo < hi) (h : Mid x v n) (e1 : lett lo hi v = some b) (e2 : lett lo hi x ≠ some b) : lett lo hi n = some b := by
  unfold Mid at h
  rcases lett3 lo hi v h0 with ⟨z, e⟩ | ⟨z, e⟩ | ⟨_, _, e⟩ <;> rw [e] at e1 <;> cases e1
  · rcases lett3 lo hi x h0 with ⟨y, e⟩ | ⟨y, e⟩ | ⟨y, y2, e⟩
    · exact absurd e e2
    · exact lett_lo (by omega)
    · exact lett_lo (by omega)
  · rcases lett3 lo hi x h0 with ⟨y, e⟩ | ⟨y, e⟩ | ⟨y, y2, e⟩
    · exact lett_hi h0 (by omega)
    · exact absurd e e2
    · exact lett_hi h0 (by omega)
theorem cl_put {lo hi x v : Int} (h0 : lo < hi) (r : List Int) (hr : ∀ c, r.head? = some c → Mid x v c) (o : Option Bool) (ho : ∀ b, lett lo hi v = some b → lett lo hi x ≠ some b → o = none ∨ o = some b) : cl lo hi o (v :: r) ≤ cl lo hi o (x :: r) := by
  by_cases e : lett lo hi v = lett lo hi x
  · rw [cl_cons, cl_cons, e]
    exact Nat.le_refl _
  · cases ev : lett lo hi v with
    | none =>
      rw [cl_cons, ev]
      exact cl_sub (List.sublist_cons_self _ _) o
    | some b =>
      have ex : lett lo hi x ≠ some b := fun z => e (ev.trans z.symm)
      have d0 : d2 o b = 0 := by
        rcases ho b ev ex with z | z
        · rw [z]; rfl
        · rw [z]; simp [d2]
      rw [cl_cons, ev]
      show d2 o b + cl lo hi (some b) r ≤ _
      rw [d0, Nat.zero_add]
      cases r with
      | nil => rw [cl_nil]; exact Nat.zero_le _
      | cons c r =>
        have ec := mid_let h0 (hr c rfl) ev ex
        have k : cl lo hi o (c :: r) ≤ cl lo hi o (x :: c :: r) := cl_sub (List.sublist_cons_self _ _) o
        refine Nat.le_trans ?_ k
        rw [cl_cons, cl_cons, ec]
        show d2 (some b) b + _ ≤ d2 o b + _
        rw [d0]
        simp [d2]
theorem cl_put_at {lo hi x v : Int} (h0 : lo < hi) (r : List Int) (hr : ∀ c, r.head? = some c → Mid x v c) : ∀ (pre : List Int) (o : Option Bool), (∀ a, pre.getLast? = some a → Mid x v a) → (pre = [] → ∀ b, lett lo hi v = some b → lett lo hi x ≠ some b → o = none ∨ o = some b) → cl lo hi o (pre ++ v :: r) ≤ cl lo hi o (pre ++ x :: r)
  | [], o, _, ho => cl_put h0 r hr o (ho rfl)
  | p :: pre, o, hp, _ => by
    have key : ∀ o', (pre = [] → ∀ b, lett lo hi v = some b → lett lo hi x ≠ some b → o' = none ∨ o' = some b) → cl lo hi o' (pre ++ v :: r) ≤ cl lo hi o' (pre ++ x :: r) := fun o' h' =>
      cl_put_at h0 r hr pre o' (fun a ha => hp a (by
        cases pre with
        | nil => cases ha
        | cons q pre => rw [List.getLast?_cons_cons]; exact ha)) h'
    show cl lo hi o (p :: (pre ++ v :: r)) ≤ cl lo hi o (p :: (pre ++ x :: r))
    rw [cl_cons, cl_cons]
    cases e : lett lo hi p with
    | none =>
      refine key o fun e0 b h1 h2 => ?_
      subst e0
      have := mid_let h0 (hp p rfl) h1 h2
      rw [e] at this
      cases this
    | some b' =>
      refine Nat.add_le_add_left (key _ fun e0 b h1 h2 => .inr ?_) _
      subst e0
      have := mid_let h0 (hp p rfl) h1 h2
      rw [e] at this
      exact this
theorem chg_put_at {lo hi x v : Int} (h0 : lo < hi) {pre r : List Int} (hp : ∀ a, pre.getLast? = some a → Mid x v a) (hr : ∀ c, r.head? = some c → Mid x v c) : chg (pre ++ v :: r) lo hi ≤ chg (pre ++ x :: r) lo hi :=
  cl_put_at h0 r hr pre none hp fun _ _ _ _ => .inl rfl
theorem chg_tp {lo hi : Int} (h0 : lo < hi) (ns : List Int) : chg (tp ns) lo hi = chg ns lo hi := cl_tp h0 ns
theorem zz_three : ∀ {ps : List Int} {j : Nat} {a x c : Int}, ZZ ps → ps[j]? = some a → ps[j + 1]? = some x → ps[j + 2]? = some c → (a < x ∧ c < x) ∨ (x < a ∧ x < c)
  | p :: q :: r :: l, 0, a, x, c, z, h1, h2, h3 => by
    have e1 : p = a := Option.some.inj h1
    have e2 : q = x := Option.some.inj h2
    have e3 : r = c := Option.some.inj h3
    subst e1 e2 e3
    have := z.1
    omega
  | p :: l, j + 1, a, x, c, z, h1, h2, h3 => zz_three (ps := l) (j := j) z.tail h1 h2 h3
  | [], _, _, _, _, _, h, _, _ => by simp at h
  | [_], 0, _, _, _, _, _, h, _ => by simp at h
  | [_, _], 0, _, _, _, _, _, _, h => by simp at h
theorem zz_two : ∀ {ps : List Int} {j : Nat} {a x : Int}, ZZ ps → ps[j]? = some a → ps[j + 1]? = some x → a ≠ x
  | p :: q :: l, 0, a, x, z, h1, h2 => by
    have e1 : p = a := Option.some.inj h1
    have e2 : q = x := Option.some.inj h2
    subst e1 e2
    exact zz_cons z
  | p :: l, j + 1, a, x, z, h1, h2 => zz_two (ps := l) (j := j) z.tail h1 h2
  | [], _, _, _, _, h, _ => by simp at h
  | [_], 0, _, _, _, _, h => by simp at h
/-- near is a neighbour of the point at j, the nearer one -/
def Near (ps : List Int) (j : Nat) (x near : Int) : Prop :=
  (∀ a, 0 < j → ps[j - 1]? = some a → (near - x).natAbs ≤ (a - x).natAbs) ∧ (∀ c, ps[j + 1]? = some c → (near - x).natAbs ≤ (c - x).natAbs) ∧ ((0 < j ∧ ps[j - 1]? = some near) ∨ ps[j + 1]? = some near)
theorem near_mid {ps : List Int} {j : Nat} {x near v : Int} (zz : ZZ ps) (hx : ps[j]? = some x) (hn : Near ps j x near) (hv : Mid x v near) : (∀ a, 0 < j → ps[j - 1]? = some a → Mid x v a) ∧ (∀ c, ps[j + 1]? = some c → Mid x v c) := by
  obtain ⟨n1, n2, n3⟩ := hn
  unfold Mid at *
  refine ⟨fun a hj ha => ?_, fun c hc => ?_⟩
  · have d := n1 a hj ha
    rcases n3 with ⟨_, e⟩ | e
    · rw [ha] at e
      cases e
      exact hv
    · obtain ⟨i, rfl⟩ : ∃ i, j = i + 1 := ⟨j - 1, by omega⟩
      have := zz_three zz ha hx e
      omega
  · have d := n2 c hc
    rcases n3 with ⟨hj, e⟩ | e
    · obtain ⟨i, rfl⟩ : ∃ i, j = i + 1 := ⟨j - 1, by omega⟩
      have := zz_three zz e hx hc
      omega
    · rw [hc] at e
      cases e
      exact hv
theorem lowered {lo hi : Int} (h0 : lo < hi) {ns : List Int} {j : Nat} {x near v : Int} (hx : (tp ns)[j]? = some x) (hn : Near (tp ns) j x near) (hv : Mid x v near) : chg ((tp ns).set j v) lo hi ≤ chg ns lo hi := by
  rw [← chg_tp h0 ns]
  generalize hp : tp ns = ps at *
  have zz : ZZ ps := hp ▸ tp_zz ns
  obtain ⟨m1, m2⟩ := near_mid zz hx hn hv
  obtain ⟨hj, ex⟩ := List.getElem?_eq_some_iff.mp hx
  have e1 : ps.set j v = ps.take j ++ v :: ps.drop (j + 1) := by rw [List.set_eq_take_append_cons_drop, if_pos hj]
  have e2 : ps.take j ++ x :: ps.drop (j + 1) = ps := by
    rw [← ex, ← List.drop_eq_getElem_cons hj, List.take_append_drop]
  rw [e1]
  refine Nat.le_trans (chg_put_at h0 (x := x) (v := v) (fun a ha => ?_) (fun c hc => ?_)) (Nat.le_of_eq (by rw [e2]))
  · rw [List.getLast?_eq_getElem?, List.length_take, Nat.min_eq_left (by omega)] at ha
    by_cases z : 0 < j
    · rw [List.getElem?_take] at ha
      rw [if_pos (by omega)] at ha
      exact m1 a z ha
    · have : j = 0 := by omega
      subst this
      simp at ha
  · rw [List.head?_drop] at hc
    exact m2 c hc
theorem sort_two {ms : List Int} {u v : Int} (p : ms.Perm [u, v]) (s : ms.Pairwise (· ≤ ·)) : ms = [(rg u v).1, (rg u v).2] := by
  have hl := p.length_eq
  match ms, hl with
  | [a, b], _ =>
    have h1 := (p.mem_iff (a := a)).mp (by simp)
    have h2 := (p.mem_iff (a := b)).mp (by simp)
    have h3 := (p.mem_iff (a := u)).mpr (by simp)
    have h4 := (p.mem_iff (a := v)).mpr (by simp)
    simp only [List.mem_cons, List.not_mem_nil, or_false] at h1 h2 h3 h4
    have h5 : a ≤ b := by simpa using s
    unfold rg
    dsimp only
    have e1 : a = if v < u then v else u := by split <;> omega
    have e2 : b = if v > u then v else u := by split <;> omega
    rw [← e1, ← e2]
end K9

/-! loads repeated for ever: mathematics -/
namespace K20
open KM PM RM RN RC RE K9
/-! ### changes round the circle -/
def dif (a b : Option Bool) : Nat := match a, b with
  | some x, some y => if x = y then 0 else 1
  | _, _ => 0
/-- the number of letters that differ from the one before, round the circle -/
def cyc (l : List Bool) : Nat := cnt l + dif l.getLast? l.head?
theorem cf_app : ∀ (l : List Bool) (a : Bool) (m : List Bool), cf a (l ++ m) = cf a l + cfO (some ((a :: l).getLast (by simp))) m
  | [], a, m => by show cf a m = 0 + cf a m; omega
  | b :: l, a, m => by
    have ih := cf_app l b m
    show (if a = b then 0 else 1) + cf b (l ++ m) = (if a = b then 0 else 1) + cf b l + cfO (some ((a :: b :: l).getLast (by simp))) m
    rw [ih, List.getLast_cons (a := a) (l := b :: l) (by simp)]
    omega
theorem cnt_app (l m : List Bool) : cnt (l ++ m) = cnt l + dif l.getLast? m.head? + cnt m := by
  cases l with
  | nil => show cnt m = 0 + 0 + cnt m; omega
  | cons a l =>
    show cf a (l ++ m) = cf a l + _ + cnt m
    rw [cf_app]
    rw [List.getLast?_eq_some_getLast (l := a :: l) (by simp)]
    cases m with
    | nil => rfl
    | cons b m =>
      show cf a l + ((if (a :: l).getLast (by simp) = b then 0 else 1) + cf b m) = cf a l + (if (a :: l).getLast (by simp) = b then 0 else 1) + cf b m
      omega
theorem cyc_rot (l m : List Bool) : cyc (l ++ m) = cyc (m ++ l) := by
  unfold cyc
  rw [cnt_app, cnt_app]
  cases l with
  | nil => simp [dif, cnt]
  | cons a l =>
    cases m with
    | nil => simp [dif, cnt]
    | cons b m =>
      have e1 : ((a :: l) ++ (b :: m)).getLast? = (b :: m).getLast? := by rw [List.getLast?_append]; rw [List.getLast?_eq_some_getLast (l := b :: m) (by simp)]; rfl
      have e2 : ((b :: m) ++ (a :: l)).getLast? = (a :: l).getLast? := by rw [List.getLast?_append]; rw [List.getLast?_eq_some_getLast (l := a :: l) (by simp)]; rfl
      rw [e1, e2]
      show _ + dif _ (some b) + _ + dif _ (some a) = _ + dif _ (some a) + _ + dif _ (some b)
      omega
def rnd (lo hi : Int) (ns : List Int) : Nat := cyc (lets lo hi ns)
theorem lets_app (lo hi : Int) (l m : List Int) : lets lo hi (l ++ m) = lets lo hi l ++ lets lo hi m := List.filterMap_append
theorem rnd_rot (lo hi : Int) (l m : List Int) : rnd lo hi (l ++ m) = rnd lo hi (m ++ l) := by
  unfold rnd
  rw [lets_app, lets_app, cyc_rot]
theorem cnt_one : ∀ {l : List Bool} {b : Bool}, (∀ x ∈ l, x = b) → cnt l = 0
  | [], _, _ => rfl
  | [_], _, _ => rfl
  | x :: y :: l, b, h => by
    have ih := cnt_one (l := y :: l) (b := b) fun z hz => h z (List.mem_cons_of_mem _ hz)
    have e1 := h x (by simp)
    have e2 := h y (by simp)
    show (if x = y then 0 else 1) + cf y l = 0
    have ih : cf y l = 0 := ih
    rw [ih, e1, e2, if_pos rfl]
theorem cyc_one {l : List Bool} {b : Bool} (h : ∀ x ∈ l, x = b) : cyc l = 0 := by
  unfold cyc
  rw [cnt_one h]
  cases l with
  | nil => rfl
  | cons a l =>
    rw [List.getLast?_eq_some_getLast (l := a :: l) (by simp)]
    show 0 + (if (a :: l).getLast (by simp) = a then 0 else 1) = 0
    rw [h _ (List.getLast_mem (by simp)), h a (by simp), if_pos rfl]
theorem lets_mem {lo hi : Int} {ns : List Int} {b : Bool} (h : b ∈ lets lo hi ns) : ∃ x ∈ ns, lett lo hi x = some b := List.mem_filterMap.mp h
/-- a load that begins with a greatest reading, and the same behind it -/
theorem rnd_chg {lo hi M : Int} (h0 : lo < hi) {l : List Int} (hm : ∀ x ∈ l, x ≤ M) : rnd lo hi (M :: l) = chg (M :: l ++ [M]) lo hi := by
  unfold rnd chg
  rw [lets_app]
  rcases lett3 lo hi M h0 with ⟨_, e⟩ | ⟨_, e⟩ | ⟨h1, h2, e⟩
  · have el : lets lo hi [M] = [true] := by simp [lets, e]
    have ec : lets lo hi (M :: l) = true :: lets lo hi l := by simp [lets, e]
    rw [el, ec, cnt_app]
    unfold cyc
    rfl
  · have el : lets lo hi [M] = [false] := by simp [lets, e]
    have ec : lets lo hi (M :: l) = false :: lets lo hi l := by simp [lets, e]
    rw [el, ec, cnt_app]
    unfold cyc
    rfl
  · have el : lets lo hi [M] = [] := by simp [lets, e]
    have one : ∀ b ∈ lets lo hi (M :: l), b = true := fun b hb => by
      obtain ⟨x, hx, ex⟩ := lets_mem hb
      have : x ≤ M := by
        rcases List.mem_cons.mp hx with z | z
        · omega
        · exact hm x z
      rcases lett3 lo hi x h0 with ⟨_, e⟩ | ⟨_, e⟩ | ⟨_, _, e⟩ <;> rw [e] at ex
      · exact (Option.some.inj ex).symm
      · omega
      · cases ex
    rw [el, List.append_nil, cyc_one one, cnt_one one]
/-! ### the circle -/
/-- M is the greatest reading, at a for the first time -/
structure Top (ns : List Int) (a : Nat) (M : Int) : Prop where
  at' : ns[a]? = some M
  le : ∀ x ∈ ns, x ≤ M
  first : ∀ j x, j < a → ns[j]? = some x → x ≠ M
theorem Top.one {ns : List Int} {a b : Nat} {M N : Int} (h : Top ns a M) (g : Top ns b N) : a = b ∧ M = N := by
  have e : M = N := by
    have h1 := h.le N (List.mem_of_getElem? g.at')
    have h2 := g.le M (List.mem_of_getElem? h.at')
    omega
  subst e
  refine ⟨?_, rfl⟩
  rcases Nat.lt_trichotomy a b with z | z | z
  · exact absurd rfl (g.first a M z h.at')
  · exact z
  · exact absurd rfl (h.first b M z g.at')
def circ (ns : List Int) (a : Nat) : List Int := ns.drop a ++ ns.take (a + 1)
theorem circ_eq {ns : List Int} {a : Nat} {M : Int} (h : ns[a]? = some M) : circ ns a = M :: (ns.drop (a + 1) ++ ns.take a) ++ [M] := by
  obtain ⟨h1, h2⟩ := List.getElem?_eq_some_iff.mp h
  unfold circ
  rw [List.drop_eq_getElem_cons h1, h2, List.take_add_one, h]
  simp
theorem rnd_circ {lo hi M : Int} (h0 : lo < hi) {ns : List Int} {a : Nat} (t : Top ns a M) : rnd lo hi ns = chg (circ ns a) lo hi := by
  obtain ⟨h1, h2⟩ := List.getElem?_eq_some_iff.mp t.at'
  have e : rnd lo hi ns = rnd lo hi (M :: (ns.drop (a + 1) ++ ns.take a)) := by
    have := rnd_rot lo hi (ns.take a) (ns.drop a)
    rw [List.take_append_drop] at this
    rw [this, List.drop_eq_getElem_cons h1, h2]
    rfl
  rw [e, circ_eq t.at', rnd_chg h0]
  intro x hx
  rcases List.mem_append.mp hx with z | z
  · exact t.le x (List.mem_of_mem_drop z)
  · exact t.le x (List.mem_of_mem_take z)
theorem circ_mem {ns : List Int} {a : Nat} {x : Int} (h : x ∈ circ ns a) : x ∈ ns := by
  rcases List.mem_append.mp h with z | z
  · exact List.mem_of_mem_drop z
  · exact List.mem_of_mem_take z
theorem mem_circ {ns : List Int} {a : Nat} {x : Int} (h : x ∈ ns) : x ∈ circ ns a := by
  have e : ns.take a ++ ns.drop a = ns := List.take_append_drop _ _
  rw [← e] at h
  rcases List.mem_append.mp h with z | z
  · refine List.mem_append_right _ ?_
    rw [List.take_add_one]
    exact List.mem_append_left _ z
  · exact List.mem_append_left _ z
/-! ### first and last points -/
theorem ts_head : ∀ (l : List Int) (a : Int), (ts a l).head? = some a
  | [], _ => rfl
  | r :: l, a => by
    simp only [ts]
    split
    · exact ts_head l a
    · rfl
theorem tq_ne : ∀ (l : List Int) (b a : Int), tq b a l ≠ []
  | [], _, _ => by simp [tq]
  | r :: l, b, a => by
    simp only [tq]
    split
    · exact tq_ne l b a
    · split
      · exact tq_ne l b r
      · simp
theorem tq_lastp : ∀ (l : List Int) (b a : Int), (tq b a l).getLast? = (a :: l).getLast?
  | [], _, _ => rfl
  | r :: l, b, a => by
    rw [List.getLast?_cons_cons]
    simp only [tq]
    split
    · rename_i e
      rw [tq_lastp l b a, e]
    · split
      · exact tq_lastp l b r
      · rename_i n1 n2
        have ne := tq_ne l a r
        obtain ⟨x, s, e⟩ : ∃ x s, tq a r l = x :: s := by
          cases h : tq a r l with
          | nil => exact absurd h ne
          | cons x s => exact ⟨x, s, rfl⟩
        rw [e, List.getLast?_cons_cons, ← e]
        exact tq_lastp l a r
theorem ts_lastp : ∀ (l : List Int) (a : Int), (ts a l).getLast? = (a :: l).getLast?
  | [], _ => rfl
  | r :: l, a => by
    rw [List.getLast?_cons_cons]
    simp only [ts]
    split
    · rename_i e
      rw [ts_lastp l a, e]
    · have ne := tq_ne l a r
      obtain ⟨x, s, e⟩ : ∃ x s, tq a r l = x :: s := by
        cases h : tq a r l with
        | nil => exact absurd h ne
        | cons x s => exact ⟨x, s, rfl⟩
      rw [e, List.getLast?_cons_cons, ← e]
      exact tq_lastp l a r
theorem ts_all : ∀ {l : List Int} {a : Int}, (∀ x ∈ l, x = a) → ts a l = [a]
  | [], _, _ => rfl
  | r :: l, a, h => by
    simp only [ts]
    rw [if_pos (h r (by simp)).symm]
    exact ts_all fun x hx => h x (List.mem_cons_of_mem _ hx)
theorem ts_one : ∀ {l : List Int} {a : Int}, ts a l = [a] → ∀ x ∈ l, x = a
  | [], _, _, x, h => (List.not_mem_nil h).elim
  | r :: l, a, h, x, hx => by
    simp only [ts] at h
    by_cases e : a = r
    · rw [if_pos e] at h
      rcases List.mem_cons.mp hx with z | z
      · rw [z, e]
      · exact ts_one h x z
    · rw [if_neg e] at h
      exact absurd (List.cons.inj h).2 (tq_ne _ _ _)
theorem step_head? {p q : List Int} {c : Int × Int} (s : Step p c q) : q.head? = p.head? := by
  cases s with
  | here _ => rfl
  | there _ => rfl
theorem step_ne {p q : List Int} {c : Int × Int} (s : Step p c q) : q ≠ [] := by
  cases s with
  | here _ => simp
  | there _ => simp
theorem step_last? {p q : List Int} {c : Int × Int} (s : Step p c q) : q.getLast? = p.getLast? := by
  induction s with
  | @here a b c d post t => rw [List.getLast?_cons_cons, List.getLast?_cons_cons, List.getLast?_cons_cons, List.getLast?_cons_cons]
  | @there x p q cy s ih =>
    cases q with
    | nil => exact absurd rfl (step_ne s)
    | cons u v =>
      cases p with
      | nil => cases s
      | cons u' v' => rw [List.getLast?_cons_cons, List.getLast?_cons_cons, ih]
theorem step_sub {p q : List Int} {c : Int × Int} (s : Step p c q) : ∀ x ∈ q, x ∈ p := by
  induction s with
  | @here a b c d post t =>
    intro x hx
    simp only [List.mem_cons] at hx ⊢
    rcases hx with e | e | e
    · exact .inl e
    · exact .inr (.inr (.inr (.inl e)))
    · exact .inr (.inr (.inr (.inr e)))
  | there _ ih =>
    intro y hy
    rcases List.mem_cons.mp hy with e | e
    · exact List.mem_cons.mpr (.inl e)
    · exact List.mem_cons_of_mem _ (ih y e)
theorem step_low {p q : List Int} {c : Int × Int} (s : Step p c q) : ZZ p → ∀ x ∈ p, ∃ y ∈ q, y ≤ x := by
  induction s with
  | @here a b c d post t =>
    intro z x hx
    have ti := (taken_iff z.four).mp t
    simp only [List.mem_cons] at hx
    rcases hx with e | e | e | e | e
    · exact ⟨a, by simp, by omega⟩
    · rcases ti with ti | ti
      · exact ⟨a, by simp, by omega⟩
      · exact ⟨d, by simp, by omega⟩
    · rcases ti with ti | ti
      · exact ⟨a, by simp, by omega⟩
      · exact ⟨d, by simp, by omega⟩
    · exact ⟨d, by simp, by omega⟩
    · exact ⟨x, by simp [e], by omega⟩
  | @there u p q cy s ih =>
    intro z x hx
    rcases List.mem_cons.mp hx with e | e
    · exact ⟨u, by simp, by omega⟩
    · obtain ⟨y, hy, l⟩ := ih z.tail x e
      exact ⟨y, List.mem_cons_of_mem _ hy, l⟩
theorem run_keep {p q : List Int} {cs : List (Int × Int)} (r : Run p cs q) : ZZ p → q.head? = p.head? ∧ q.getLast? = p.getLast? ∧ (∀ x ∈ q, x ∈ p) ∧ ∀ x ∈ p, ∃ y ∈ q, y ≤ x := by
  induction r with
  | nil p => exact fun _ => ⟨rfl, rfl, fun _ h => h, fun x h => ⟨x, h, Int.le_refl _⟩⟩
  | cons s _ ih =>
    intro z
    obtain ⟨h1, h2, h3, h4⟩ := ih (ZZ.step s z)
    refine ⟨h1.trans (step_head? s), h2.trans (step_last? s), fun x hx => step_sub s x (h3 x hx), fun x hx => ?_⟩
    obtain ⟨y, hy, l⟩ := step_low s z x hx
    obtain ⟨y2, hy2, l2⟩ := h4 y hy
    exact ⟨y2, hy2, by omega⟩
theorem last_mem {l : List Int} {x : Int} (h : l.getLast? = some x) : x ∈ l := by
  cases l with
  | nil => cases h
  | cons a l =>
    rw [List.getLast?_eq_some_getLast (l := a :: l) (by simp)] at h
    rw [← Option.some.inj h]
    exact List.getLast_mem (by simp)
/-- the rest of a circle that is cut at a greatest reading -/
theorem rest_three {rs : List Int} {M : Int} (z : ZZ rs) (n : NF rs) (h1 : rs.head? = some M) (h2 : rs.getLast? = some M) (h3 : ∀ x ∈ rs, x ≤ M) : rs = [M] ∨ ∃ m, m < M ∧ rs = [M, m, M] := by
  match rs, h1 with
  | [x], h1 => exact .inl (by rw [show x = M from Option.some.inj h1])
  | [x, y], h1 =>
    have e : x = M := Option.some.inj h1
    have e2 : y = M := Option.some.inj h2
    exact absurd (e.trans e2.symm) z
  | x :: y :: w :: t, h1 =>
    have e : x = M := Option.some.inj h1
    subst e
    have hy := h3 y (by simp)
    have hw := h3 w (by simp)
    have z1 := z.1
    have yx : y < x := by omega
    have con := nf_con z n (.inl ⟨yx, hw⟩)
    have lst : (y :: w :: t).getLast? = some x := by
      have := h2
      rw [List.getLast?_cons_cons] at this
      exact this
    have inn := Con.inside con.2 (by omega)
    have hx := inn x (last_mem lst)
    rw [if_pos (by omega), if_pos (by omega)] at hx
    have ew : w = x := by omega
    subst ew
    cases t with
    | nil => exact .inr ⟨y, yx, rfl⟩
    | cons u t =>
      exfalso
      have c2 := con.2.1
      have hu := h3 u (by simp)
      have nt : ¬ Taken w y w u := fun k => n _ _ (.here k)
      have z4 : ZZ (w :: y :: w :: u :: []) := z.four
      rw [taken_iff z4] at nt
      have uy : y < u := by omega
      cases t with
      | nil =>
        have : u = w := by
          have l2 := h2
          rw [List.getLast?_cons_cons, List.getLast?_cons_cons, List.getLast?_cons_cons] at l2
          exact Option.some.inj l2
        omega
      | cons v t =>
        have c3 := con.2.2.1
        have hv := h3 v (by simp)
        have lst2 : (u :: v :: t).getLast? = some w := by
          have := h2
          rw [List.getLast?_cons_cons, List.getLast?_cons_cons, List.getLast?_cons_cons] at this
          exact this
        have inn2 := Con.inside con.2.2.2 (by omega)
        have hx2 := inn2 w (last_mem lst2)
        rw [if_pos (by omega), if_pos (by omega)] at hx2
        have ev : v = w := by omega
        have nt2 : ¬ Taken y w u v := fun k => n _ _ (.there (.here k))
        rw [taken_iff z.tail.four] at nt2
        omega
/-! ### closed cycles -/
/-- es are the closed cycles of ns -/
structure Cl (ns : List Int) (es : List (Int × Int)) : Prop where
  cnt : ∀ lo hi, lo < hi → rnd lo hi ns = 2 * nh lo hi es
  srt : es.Pairwise Le
  inr : ∀ u v, (∀ x ∈ ns, u ≤ x ∧ x ≤ v) → ∀ r ∈ es, InR u v r
theorem Cl.many {ns : List Int} {es : List (Int × Int)} (h : Cl ns es) {lo hi : Int} (h0 : lo < hi) : (rnd lo hi ns : Int) - rnd (lo - 1) hi ns - rnd lo (hi + 1) ns + rnd (lo - 1) (hi + 1) ns = 2 * (es.count (lo, hi) : Nat) := by
  have j := just (lo := lo) (hi := hi) es
  rw [h.cnt lo hi h0, h.cnt (lo - 1) hi (by omega), h.cnt lo (hi + 1) (by omega), h.cnt (lo - 1) (hi + 1) (by omega)]
  omega
theorem ends_of (ns : List Int) : ∃ u v, ∀ x ∈ ns, u ≤ x ∧ x ≤ v := by
  induction ns with
  | nil => exact ⟨0, 0, fun x h => (List.not_mem_nil h).elim⟩
  | cons a l ih =>
    obtain ⟨u, v, h⟩ := ih
    refine ⟨min u a, max v a, fun x hx => ?_⟩
    rcases List.mem_cons.mp hx with e | e
    · omega
    · have := h x e
      omega
theorem Cl.one {ns : List Int} {es fs : List (Int × Int)} (h : Cl ns es) (g : Cl ns fs) : es = fs := by
  refine sorted_same (List.perm_iff_count.mpr fun r => ?_) h.srt g.srt
  obtain ⟨lo, hi⟩ := r
  by_cases z : lo < hi
  · have h1 := h.many z
    have h2 := g.many z
    omega
  · obtain ⟨u, v, b⟩ := ends_of ns
    rw [List.count_eq_zero.mpr fun m => z (h.inr u v b _ m).2.1, List.count_eq_zero.mpr fun m => z (g.inr u v b _ m).2.1]
theorem Cl.all_eq {ns : List Int} {M : Int} (h : ∀ x ∈ ns, x = M) : Cl ns [] := by
  refine ⟨fun lo hi h0 => ?_, List.Pairwise.nil, fun _ _ _ r z => (List.not_mem_nil z).elim⟩
  show cyc (lets lo hi ns) = 0
  cases e : lett lo hi M with
  | none =>
    refine cyc_one (b := true) fun b hb => ?_
    obtain ⟨x, hx, ex⟩ := lets_mem hb
    rw [h x hx, e] at ex
    cases ex
  | some b' =>
    refine cyc_one (b := b') fun b hb => ?_
    obtain ⟨x, hx, ex⟩ := lets_mem hb
    rw [h x hx, e] at ex
    exact (Option.some.inj ex).symm
/-- the points on the circle -/
def CP (ns ps : List Int) : Prop := (ns = [] ∧ ps = []) ∨ ∃ a M, Top ns a M ∧ ps = (tp (circ ns a)).dropLast
theorem CP.one {ns ps qs : List Int} (h : CP ns ps) (g : CP ns qs) : ps = qs := by
  rcases h with ⟨e, h⟩ | ⟨a, M, t, h⟩
  · rcases g with ⟨_, g⟩ | ⟨b, N, u, _⟩
    · rw [h, g]
    · have := u.at'
      rw [e] at this
      simp at this
  · rcases g with ⟨e, _⟩ | ⟨b, N, u, g⟩
    · have := t.at'
      rw [e] at this
      simp at this
    · rw [h, g, (t.one u).1]
theorem tp_circ {ns : List Int} {a : Nat} {M : Int} (t : Top ns a M) : (tp (circ ns a)).head? = some M ∧ (tp (circ ns a)).getLast? = some M ∧ ∀ x ∈ tp (circ ns a), x ≤ M := by
  have e := circ_eq t.at'
  have e2 : circ ns a = M :: ((ns.drop (a + 1) ++ ns.take a) ++ [M]) := by rw [e]; rfl
  refine ⟨?_, ?_, fun x hx => t.le x (circ_mem (tp_mem hx))⟩
  · rw [e2]
    exact ts_head _ _
  · rw [e2]
    show (ts M _).getLast? = _
    rw [ts_lastp]
    show (M :: (ns.drop (a + 1) ++ ns.take a) ++ [M]).getLast? = some M
    rw [List.getLast?_append]
    rfl
/-- no points on the circle exactly if all readings are equal -/
theorem cp_nil {ns : List Int} {a : Nat} {M : Int} (t : Top ns a M) : (tp (circ ns a)).dropLast = [] ↔ ∀ x ∈ ns, x = M := by
  have e2 : circ ns a = M :: ((ns.drop (a + 1) ++ ns.take a) ++ [M]) := by rw [circ_eq t.at']; rfl
  constructor
  · intro h x hx
    have hh := (tp_circ t).1
    have e : tp (circ ns a) = [M] := by
      match hq : tp (circ ns a), hh, h with
      | [y], hh, _ => rw [show y = M from Option.some.inj hh]
      | y :: w :: l, _, h => simp at h
    rw [e2] at e
    have := ts_one e
    rcases List.mem_cons.mp (e2 ▸ mem_circ (a := a) hx) with z | z
    · exact z
    · exact this x z
  · intro h
    have : tp (circ ns a) = [M] := by
      rw [e2]
      refine ts_all fun x hx => ?_
      refine h x (circ_mem (a := a) ?_)
      rw [e2]
      exact List.mem_cons_of_mem _ hx
    rw [this]
    rfl
theorem drop_last_back {l : List Int} {M : Int} (h : l.getLast? = some M) : l.dropLast ++ [M] = l := by
  cases l with
  | nil => cases h
  | cons a l =>
    rw [List.getLast?_eq_some_getLast (l := a :: l) (by simp)] at h
    rw [← Option.some.inj h]
    exact List.dropLast_concat_getLast (by simp)
theorem mem_dl {l : List Int} {x : Int} (h : x ∈ l.dropLast) : x ∈ l := (List.dropLast_sublist l).subset h
/-- the closed cycles: the cycles from a greatest reading round to it, and one from the least to the greatest -/
theorem cl_of {ns : List Int} {a : Nat} {M m : Int} (t : Top ns a M) (hne : (tp (circ ns a)).dropLast ≠ []) {cs ds es : List (Int × Int)} {rs : List Int} (r : Run (tp (circ ns a)) cs rs) (n : NF rs) (p : ds.Perm cs)
    (hm : m ∈ (tp (circ ns a)).dropLast) (hl : ∀ x ∈ (tp (circ ns a)).dropLast, m ≤ x) (pe : es.Perm (ds ++ [(m, M)])) (srt : es.Pairwise Le) : Cl ns es ∧ m < M := by
  obtain ⟨c1, c2, c3⟩ := tp_circ t
  have zz := tp_zz (circ ns a)
  obtain ⟨k1, k2, k3, k4⟩ := run_keep r zz
  have zr := r.zz zz
  obtain ⟨x0, hx0, nx0⟩ : ∃ x ∈ tp (circ ns a), x ≠ M := by
    by_cases z : ∀ x ∈ ns, x = M
    · exact absurd ((cp_nil t).mpr z) hne
    · obtain ⟨x, hx⟩ := Classical.not_forall.mp z
      obtain ⟨hx1, hx2⟩ := Classical.not_imp.mp hx
      by_cases z2 : ∀ y ∈ tp (circ ns a), y = M
      · have zl : (tp (circ ns a)).dropLast = [] := by
          match hq : tp (circ ns a), zz, z2 with
          | [], _, _ => rfl
          | [y], _, _ => rfl
          | y :: w :: l, zz, z2 => exact absurd ((z2 y (by simp)).trans (z2 w (by simp)).symm) (zz_cons zz)
        exact absurd zl hne
      · obtain ⟨y, hy⟩ := Classical.not_forall.mp z2
        obtain ⟨hy1, hy2⟩ := Classical.not_imp.mp hy
        exact ⟨y, hy1, hy2⟩
  rcases rest_three zr n (k1.trans c1) (k2.trans c2) (fun x hx => c3 x (k3 x hx)) with e | ⟨m', hm', e⟩
  · exfalso
    obtain ⟨y, hy, l⟩ := k4 x0 hx0
    rw [e] at hy
    have := List.mem_singleton.mp hy
    have := c3 x0 hx0
    omega
  · have em' : m' = m := by
      have b := drop_last_back c2
      have h1 : m' ∈ tp (circ ns a) := k3 m' (by rw [e]; simp)
      have h2 : m' ∈ (tp (circ ns a)).dropLast := by
        rw [← b] at h1
        rcases List.mem_append.mp h1 with z | z
        · exact z
        · exact absurd (List.mem_singleton.mp z) (by omega)
      have h3 := hl m' h2
      obtain ⟨y, hy, l⟩ := k4 m (mem_dl hm)
      rw [e] at hy
      simp only [List.mem_cons, List.not_mem_nil, or_false] at hy
      omega
    subst em'
    refine ⟨⟨fun lo hi h0 => ?_, srt, fun u v hb q hq => ?_⟩, hm'⟩
    · rw [rnd_circ h0 t, chg_count h0 r n, nh_perm pe, nh_app, nh_perm p, e]
      show 2 * nh lo hi cs + nh lo hi [rg M m', rg m' M] = _
      rw [rg_down hm', rg_up hm', nh_cons, nh_cons]
      have e0 : nh lo hi [] = 0 := rfl
      rw [e0]
      omega
    · have hb2 : ∀ x ∈ tp (circ ns a), u ≤ x ∧ x ≤ v := fun x hx => hb x (circ_mem (tp_mem hx))
      obtain ⟨i1, _⟩ := run_in r zz hb2
      rcases List.mem_append.mp (pe.mem_iff.mp hq) with z | z
      · exact i1 q (p.mem_iff.mp z)
      · rw [List.mem_singleton.mp z]
        have h1 := hb2 m' (mem_dl hm)
        have h2 := hb2 M (last_mem c2)
        exact ⟨h1.1, hm', h2.2⟩
/-! ### moved -/
theorem lett_mv (s lo hi x : Int) : lett (lo + s) (hi + s) (x + s) = lett lo hi x := by
  unfold lett
  by_cases h1 : x ≤ lo
  · rw [if_pos h1, if_pos (by omega)]
  · rw [if_neg h1, if_neg (by omega)]
    by_cases h2 : hi ≤ x
    · rw [if_pos h2, if_pos (by omega)]
    · rw [if_neg h2, if_neg (by omega)]
theorem lets_mv (s lo hi : Int) : ∀ ns : List Int, lets (lo + s) (hi + s) (ns.map (· + s)) = lets lo hi ns
  | [] => rfl
  | x :: l => by
    have ih := lets_mv s lo hi l
    unfold lets at *
    rw [List.map_cons, List.filterMap_cons, List.filterMap_cons, ih, lett_mv]
def mv (s : Int) (r : Int × Int) : Int × Int := (r.1 + s, r.2 + s)
theorem nh_mv (s lo hi : Int) : ∀ es : List (Int × Int), nh (lo + s) (hi + s) (es.map (mv s)) = nh lo hi es
  | [] => rfl
  | (a, b) :: es => by
    have ih := nh_mv s lo hi es
    rw [List.map_cons, nh_cons, nh_cons, ih]
    congr 1
    unfold mv hl
    dsimp only
    rw [show decide (a + s ≤ lo + s) = decide (a ≤ lo) by rw [decide_eq_decide]; omega, show decide (hi + s ≤ b + s) = decide (hi ≤ b) by rw [decide_eq_decide]; omega]
theorem Cl.mv {ns : List Int} {es : List (Int × Int)} (h : Cl ns es) (s : Int) : Cl (ns.map (· + s)) (es.map (mv s)) := by
  refine ⟨fun lo hi h0 => ?_, ?_, fun u v hb r hr => ?_⟩
  · have e1 := lets_mv s (lo - s) (hi - s) ns
    have e2 := nh_mv s (lo - s) (hi - s) es
    rw [show lo - s + s = lo by omega, show hi - s + s = hi by omega] at e1 e2
    unfold rnd
    rw [e1, e2]
    exact h.cnt _ _ (by omega)
  · rw [List.pairwise_map]
    refine h.srt.imp fun {a b} h => ?_
    unfold K20.mv Le at *
    dsimp only
    omega
  · obtain ⟨r0, h1, h2⟩ := List.mem_map.mp hr
    have i := h.inr (u - s) (v - s) (fun x hx => by
      have := hb (x + s) (List.mem_map.mpr ⟨x, hx, rfl⟩)
      omega) r0 h1
    unfold InR at *
    rw [← h2]
    unfold K20.mv
    dsimp only
    omega
theorem Top.mv {ns : List Int} {a : Nat} {M : Int} (t : Top ns a M) (s : Int) : Top (ns.map (· + s)) a (M + s) := by
  refine ⟨by rw [List.getElem?_map, t.at']; rfl, fun x hx => ?_, fun j x hj hx => ?_⟩
  · obtain ⟨y, hy, e⟩ := List.mem_map.mp hx
    have := t.le y hy
    omega
  · rw [List.getElem?_map] at hx
    cases e : ns[j]? with
    | none => rw [e] at hx; cases hx
    | some y =>
      rw [e] at hx
      have h1 := t.first j y hj e
      have h2 : y + s = x := Option.some.inj hx
      omega
theorem CP.mv {ns ps : List Int} (h : CP ns ps) (s : Int) : CP (ns.map (· + s)) (ps.map (· + s)) := by
  rcases h with ⟨e1, e2⟩ | ⟨a, M, t, e⟩
  · exact .inl ⟨by rw [e1]; rfl, by rw [e2]; rfl⟩
  · refine .inr ⟨a, M + s, t.mv s, ?_⟩
    have st : Str fun x => x + s := .inl fun a b => by dsimp only; omega
    have ec : circ (ns.map (· + s)) a = (circ ns a).map (· + s) := by
      unfold circ
      rw [List.map_append, List.map_drop, List.map_take]
    rw [e, ec]
    have := tp_map st (circ ns a)
    rw [this, List.map_dropLast]
end K20

namespace K20
open KM PM RM RN RC RE K9
/-! ### there are closed cycles -/
def leB (r s : Int × Int) : Bool := decide (Le r s)
theorem sorted_ex (l : List (Int × Int)) : ∃ es : List (Int × Int), es.Perm l ∧ es.Pairwise Le := by
  refine ⟨l.mergeSort leB, List.mergeSort_perm l leB, ?_⟩
  have h := List.pairwise_mergeSort (le := leB) (fun a b c h1 h2 => by
    have h1 := of_decide_eq_true h1
    have h2 := of_decide_eq_true h2
    refine decide_eq_true ?_
    simp only [Le] at *
    omega) (fun a b => by
    by_cases h : Le a b
    · simp [leB, h]
    · have : Le b a := by simp only [Le] at *; omega
      simp [leB, this]) l
  exact h.imp fun h => of_decide_eq_true h
theorem top_ex {ns : List Int} (h : ns ≠ []) : ∃ a M, Top ns a M := by
  have mx : ∀ l : List Int, l ≠ [] → ∃ M ∈ l, ∀ x ∈ l, x ≤ M := by
    intro l
    induction l with
    | nil => exact fun h => absurd rfl h
    | cons a l ih =>
      intro _
      by_cases e : l = []
      · subst e
        exact ⟨a, by simp, fun x hx => by rw [List.mem_singleton.mp hx]; exact Int.le_refl _⟩
      · obtain ⟨M, h1, h2⟩ := ih e
        by_cases c : a ≤ M
        · refine ⟨M, List.mem_cons_of_mem _ h1, fun x hx => ?_⟩
          rcases List.mem_cons.mp hx with z | z
          · omega
          · exact h2 x z
        · refine ⟨a, List.mem_cons_self, fun x hx => ?_⟩
          rcases List.mem_cons.mp hx with z | z
          · omega
          · have := h2 x z
            omega
  obtain ⟨M, hM, hle⟩ := mx ns h
  have fs : ∀ l : List Int, M ∈ l → ∃ j : Nat, l[j]? = some M ∧ ∀ (m : Nat) (z : Int), m < j → l[m]? = some z → z ≠ M := by
    intro l
    induction l with
    | nil => exact fun h => (List.not_mem_nil h).elim
    | cons x l ih =>
      intro hm
      by_cases e : x = M
      · exact ⟨0, by rw [e]; rfl, fun m z hm _ => absurd hm (Nat.not_lt_zero _)⟩
      · obtain ⟨j, h1, h2⟩ := ih (by
          rcases List.mem_cons.mp hm with z | z
          · exact absurd z.symm e
          · exact z)
        refine ⟨j + 1, h1, fun m z hm hz => ?_⟩
        cases m with
        | zero => rw [← Option.some.inj hz]; exact e
        | succ m => exact h2 m z (by omega) hz
  obtain ⟨j, h1, h2⟩ := fs ns hM
  exact ⟨j, M, h1, hle, h2⟩
theorem min_ex {l : List Int} (h : l ≠ []) : ∃ m ∈ l, ∀ x ∈ l, m ≤ x := by
  induction l with
  | nil => exact absurd rfl h
  | cons a l ih =>
    by_cases e : l = []
    · subst e
      exact ⟨a, by simp, fun x hx => by rw [List.mem_singleton.mp hx]; exact Int.le_refl _⟩
    · obtain ⟨M, h1, h2⟩ := ih e
      by_cases c : M ≤ a
      · refine ⟨M, List.mem_cons_of_mem _ h1, fun x hx => ?_⟩
        rcases List.mem_cons.mp hx with z | z
        · omega
        · exact h2 x z
      · refine ⟨a, List.mem_cons_self, fun x hx => ?_⟩
        rcases List.mem_cons.mp hx with z | z
        · omega
        · have := h2 x z
          omega
theorem cl_ex (ns : List Int) : ∃ es, Cl ns es ∧ es.length ≤ ns.length + 2 := by
  by_cases hn : ns = []
  · exact ⟨[], Cl.all_eq (M := 0) fun x hx => by rw [hn] at hx; exact (List.not_mem_nil hx).elim, Nat.zero_le _⟩
  obtain ⟨a, M, t⟩ := top_ex hn
  by_cases hd : (tp (circ ns a)).dropLast = []
  · exact ⟨[], Cl.all_eq ((cp_nil t).mp hd), Nat.zero_le _⟩
  obtain ⟨m, hm, hl⟩ := min_ex hd
  obtain ⟨cs, rs, run, nf⟩ := RM.ends _ (tp (circ ns a)) (Nat.le_refl _)
  obtain ⟨es, p, s⟩ := sorted_ex (cs ++ [(m, M)])
  refine ⟨es, (cl_of t hd run nf (List.Perm.refl cs) hm hl p s).1, ?_⟩
  have h1 := run.len
  have h2 := tp_len (circ ns a)
  have h3 : (circ ns a).length = ns.length + 1 := by
    have := (List.getElem?_eq_some_iff.mp t.at').1
    unfold circ
    rw [List.length_append, List.length_drop, List.length_take]
    omega
  rw [p.length_eq, List.length_append]
  show cs.length + 1 ≤ _
  omega
/-! ### the letters round the circle, one by one -/
theorem cyc_first {l : List Bool} {a z : Bool} (h0 : l[0]? = some a) (h1 : l[l.length - 1]? = some z) : cyc l = cnt l + (if z = a then 0 else 1) := by
  unfold cyc
  rw [List.getLast?_eq_getElem?, h1, List.head?_eq_getElem?, h0]
  rfl
/-! ### the law's turns -/
def Enm (o : List Int) (i : Nat) (fnd : List Int) : Prop := (i = 0 ∧ fnd = []) ∨ (i = o.length ∧ fnd = lp o) ∨ (∃ j p c, i = j + 1 ∧ j + 1 < o.length ∧ o[j]? = some p ∧ o[j + 1]? = some c ∧ lp o = fnd ++ lq p c (o.drop (j + 2)))
theorem enm_start {o : List Int} {x : Int} (h : o[0]? = some x) : Enm o 1 [x] := by
  match o, h with
  | [y], h =>
    have e : y = x := Option.some.inj h
    exact .inr (.inl ⟨rfl, by rw [e]; rfl⟩)
  | y :: z :: l, h =>
    have e : y = x := Option.some.inj h
    subst e
    exact .inr (.inr ⟨0, y, z, rfl, by simp, rfl, rfl, rfl⟩)
theorem enm_last {o fnd : List Int} {i : Nat} {x : Int} (h : o[i]? = some x) (hi : 0 < i) (hl : i + 1 = o.length) (e : Enm o i fnd) : Enm o (i + 1) (fnd ++ [x]) := by
  rcases e with ⟨e, _⟩ | ⟨e, _⟩ | ⟨j, p, c, e1, e2, e3, e4, e5⟩
  · omega
  · omega
  · subst e1
    rw [h] at e4
    cases e4
    refine .inr (.inl ⟨hl, ?_⟩)
    rw [e5, List.drop_eq_nil_of_le (by omega)]
    rfl
theorem enm_mid {o fnd : List Int} {i : Nat} {p x d : Int} (hp : o[i - 1]? = some p) (h : o[i]? = some x) (hd : o[i + 1]? = some d) (hi : 0 < i) (e : Enm o i fnd) : Enm o (i + 1) (if decide (p < x) = decide (d < x) then fnd ++ [x] else fnd) := by
  have hlt := (List.getElem?_eq_some_iff.mp hd).1
  rcases e with ⟨e, _⟩ | ⟨e, _⟩ | ⟨j, p', c, e1, e2, e3, e4, e5⟩
  · omega
  · omega
  · subst e1
    rw [show j + 1 - 1 = j by omega, e3] at hp
    cases hp
    rw [h] at e4
    cases e4
    obtain ⟨h1, h2⟩ := List.getElem?_eq_some_iff.mp hd
    refine .inr (.inr ⟨j + 1, x, d, rfl, by omega, h, hd, ?_⟩)
    rw [e5, List.drop_eq_getElem_cons h1, h2]
    simp only [lq]
    have ed : (decide (x > p) = decide (x > d)) ↔ (decide (p < x) = decide (d < x)) := Iff.rfl
    by_cases z : decide (p < x) = decide (d < x)
    · rw [if_pos z, if_pos (ed.mpr z), List.append_assoc]
      rfl
    · rw [if_neg z, if_neg (fun y => z (ed.mp y))]
theorem enm_end {o fnd : List Int} (e : Enm o o.length fnd) : fnd = lp o := by
  rcases e with ⟨e, h⟩ | ⟨_, h⟩ | ⟨j, p, c, e1, e2, _⟩
  · have : o = [] := List.length_eq_zero_iff.mp e.symm.symm
    rw [this, h]
    rfl
  · exact h
  · omega
end K20

/-! the once-repeated readings, from a place on -/
namespace KP
open PM
theorem drop_at {ns : List Int} {i : Nat} {r : Int} (h : ns[i]? = some r) : ns.drop i = r :: ns.drop (i + 1) := by
  obtain ⟨h1, h2⟩ := List.getElem?_eq_some_iff.mp h
  rw [List.drop_eq_getElem_cons h1, h2]
/-- what is left of the once-repeated readings from the i-th on -/
def ddr (ns : List Int) : Nat → List Int
  | 0 => dd ns
  | i + 1 => match ns[i]? with
    | some p => ddf p (ns.drop (i + 1))
    | none => []
theorem ddr_first {ns : List Int} {r : Int} (h : ns[0]? = some r) : ddr ns 0 = r :: ddr ns 1 := by
  cases ns with
  | nil => simp at h
  | cons a l =>
    have e : a = r := Option.some.inj h
    subst e
    rfl
theorem ddr_next {ns : List Int} {i : Nat} {p r : Int} (hp : ns[i]? = some p) (h : ns[i + 1]? = some r) : ddr ns (i + 1) = if r = p then ddr ns (i + 2) else r :: ddr ns (i + 2) := by
  show (match ns[i]? with | some p => ddf p (ns.drop (i + 1)) | none => []) = if r = p then (match ns[i + 1]? with | some p => ddf p (ns.drop (i + 2)) | none => []) else r :: (match ns[i + 1]? with | some p => ddf p (ns.drop (i + 2)) | none => [])
  rw [hp, h, drop_at h]
  dsimp only
  simp only [ddf]
  by_cases e : r = p
  · rw [if_pos e, if_pos e, e]
  · rw [if_neg e, if_neg e]
theorem ddr_end (ns : List Int) : ddr ns ns.length = [] := by
  cases h : ns.length with
  | zero =>
    have : ns = [] := List.length_eq_zero_iff.mp h
    rw [this]
    rfl
  | succ n =>
    show (match ns[n]? with | some p => ddf p (ns.drop (n + 1)) | none => []) = []
    have hn : n < ns.length := by omega
    rw [List.getElem?_eq_getElem hn, List.drop_eq_nil_of_le (by omega)]
    rfl
theorem dd_len : ∀ ns : List Int, (dd ns).length ≤ ns.length
  | [] => Nat.le_refl _
  | a :: l => by
    have h : ∀ (l : List Int) (p : Int), (ddf p l).length ≤ l.length := by
      intro l
      induction l with
      | nil => intro p; exact Nat.le_refl _
      | cons x l ih =>
        intro p
        simp only [ddf, List.length_cons]
        split
        · have := ih p; omega
        · have := ih x; rw [List.length_cons]; omega
    have := h l a
    simp only [dd, List.length_cons]
    omega
end KP

set_option pp.maxSteps 900
/-! k30: the law's own count -/
namespace M3W
open PySem PySem.Spec PyProof.Rows L2 KA KD KM PH PM PA PB PC RM RN RC RS QE QF QG K20 KP GU DV M3N
abbrev sTn : Stmt := topS 24
abbrev sRn : Stmt := topS 25
abbrev sHs : Stmt := topS 26
abbrev sMy : Stmt := topS 27
abbrev sCt : Stmt := topS 28
theorem scTn : FnScope ["load", "k", "once", "found", "here"] ["load"] (defScope sTn) := ⟨rfl, rfl, rfl, by decide +kernel, rfl, by decide +kernel, by decide +kernel⟩
theorem scRn : FnScope ["first", "second"] ["first", "second"] (defScope sRn) := ⟨rfl, rfl, rfl, by decide +kernel, rfl, by decide +kernel, by decide +kernel⟩
theorem scHs : FnScope ["outer", "inner"] ["outer", "inner"] (defScope sHs) := ⟨rfl, rfl, rfl, by decide +kernel, rfl, by decide +kernel, by decide +kernel⟩
theorem scMy : FnScope ["points", "k", "one"] ["points", "k"] (defScope sMy) := ⟨rfl, rfl, rfl, by decide +kernel, rfl, by decide +kernel, by decide +kernel⟩
theorem scCt : FnScope ["load", "points", "cycles", "k", "places"] ["load"] (defScope sCt) := ⟨rfl, rfl, rfl, by decide +kernel, rfl, by decide +kernel, by decide +kernel⟩
/-! ### sorted pairs -/
/-- the pair at a ref -/
def kOf (H : Hp) : V → Int × Int
  | .ref p => match H p with
    | some (.tup [.int a, .int b]) => (a, b)
    | _ => (0, 0)
  | _ => (0, 0)
theorem kOf_at {H : Hp} {p : Addr} {r : Int × Int} (h : H p = some (.tup [.int r.1, .int r.2])) : kOf H (.ref p) = r := by
  show (match H p with | some (.tup [.int a, .int b]) => (a, b) | _ => (0, 0)) = r
  rw [h]
theorem pairs_key {H : Hp} : ∀ {xs : List V} {rs : List (Int × Int)}, PairsAt H xs rs → rs = xs.map (kOf H) ∧ ∀ x ∈ xs, ∃ t, x = V.ref t ∧ H t = some (.tup [.int (kOf H x).1, .int (kOf H x).2])
  | [], [], _ => ⟨rfl, fun _ z => (List.not_mem_nil z).elim⟩
  | x :: xs, r :: rs, ⟨⟨p, h1, h2⟩, h3⟩ => by
    obtain ⟨e, all⟩ := pairs_key h3
    subst h1
    have k := kOf_at h2
    refine ⟨by rw [List.map_cons, k, ← e], fun x hx => ?_⟩
    rcases List.mem_cons.mp hx with z | z
    · exact ⟨p, z, by rw [z, k]; exact h2⟩
    · exact all x z
  | [], _ :: _, h => h.elim
  | _ :: _, [], h => h.elim
theorem pairs_of {H : Hp} : ∀ {xs : List V}, (∀ x ∈ xs, ∃ t, x = V.ref t ∧ H t = some (.tup [.int (kOf H x).1, .int (kOf H x).2])) → PairsAt H xs (xs.map (kOf H))
  | [], _ => trivial
  | x :: xs, h => ⟨h x List.mem_cons_self, pairs_of fun y hy => h y (List.mem_cons_of_mem _ hy)⟩
theorem sorted_out {H : Hp} {xs ys : List V} {rs : List (Int × Int)} (pa : PairsAt H xs rs) (h1 : SrtO.Srtd (ltP (kOf H)) ys) (h2 : SrtO.Stb (ltP (kOf H)) ys xs) : ∃ ds, PairsAt H ys ds ∧ ds.Perm rs ∧ ds.Pairwise Le := by
  obtain ⟨e, all⟩ := pairs_key pa
  refine ⟨ys.map (kOf H), pairs_of fun y hy => all y (h2.perm.mem_iff.mp hy), by rw [e]; exact h2.perm.map _, ?_⟩
  rw [List.pairwise_map]
  refine h1.imp fun {x y} h => ?_
  have := SrtO.lexB_no.mp h
  show (kOf H x).1 < (kOf H y).1 ∨ ((kOf H x).1 = (kOf H y).1 ∧ (kOf H x).2 ≤ (kOf H y).2)
  omega
theorem cut_to (xs : List V) (k : Nat) : cutV xs none (some ((k : Nat) : Int)) = xs.take k := by
  unfold cutV
  rw [HT.sIx_none, HT.sIx_nat]
  simp only [Nat.sub_zero, List.drop_zero]
  rcases Nat.le_total k xs.length with h | h
  · rw [Nat.min_eq_left h]
  · rw [Nat.min_eq_right h, List.take_length, List.take_of_length_le h]
theorem cut_from (xs : List V) (k : Nat) : cutV xs (some ((k : Nat) : Int)) none = xs.drop k := by
  unfold cutV
  rw [HT.sIx_nat, HT.sIx_none]
  rcases Nat.le_total k xs.length with h | h
  · rw [Nat.min_eq_left h, List.take_of_length_le (by rw [List.length_drop]; omega)]
  · rw [Nat.min_eq_right h, Nat.sub_self, List.drop_eq_nil_of_le h]
    rfl
theorem pairs_upd {H : Hp} {c : Addr} {l : List V} {o : HO} (hc : H c = some (.lst l)) : ∀ {xs : List V} {rs : List (Int × Int)}, PairsAt H xs rs → PairsAt (upd H c o) xs rs
  | [], [], _ => trivial
  | x :: xs, r :: rs, ⟨⟨p, h1, h2⟩, h3⟩ => ⟨⟨p, h1, by rw [upd_ne (fun z => by rw [z, hc] at h2; cases h2)]; exact h2⟩, pairs_upd hc h3⟩
  | [], _ :: _, h => h.elim
  | _ :: _, [], h => h.elim
theorem rg_mem {a b : Int} {ns : List Int} (h1 : a ∈ ns) (h2 : b ∈ ns) : (rg a b).1 ∈ ns ∧ (rg a b).2 ∈ ns := by
  unfold rg
  constructor
  · show (if b < a then b else a) ∈ ns
    split <;> assumption
  · show (if b > a then b else a) ∈ ns
    split <;> assumption
section
variable {P : Program} {w : World} {K : PySem.W.Frag} {mg : Str → Option Value} {base : Heap}
def spTn (K : PySem.W.Frag) : Sp := fun vs H Q _ => ∃ (a : Addr) (ns : List Int), vs = [.ref a] ∧ Sq K H a (ns.map V.int) ∧ ns.length ≤ 2500 ∧ ∀ H' p, Same H H' → H p = none → H' p = some (.lst ((tp ns).map V.int)) → Q (.ref p) H'
theorem ok_tn {f : Addr} {fd : FuncData} {k : Nat} (F : Fun K "_law_turns" "_law_turns" sTn f fd) (ml : mg "len" = none) (mr : mg "range" = none) (me : mg "enumerate" = none) : FnOk P w K mg base CX0 (k + 1) f fd ["load"] (spTn K) := by
  refine F.ok scTn (fun vs H Q E h => ?_) (fun cdv A outer s H vs Q E hr h => ?_)
  · obtain ⟨a, ns, rfl, _⟩ := h
    rfl
  · obtain ⟨a, ns, rfl, hS, hlen, hq⟩ := h
    refine ⟨_, pss_cons (ps_setLc (i := 2) (own := [("k", 1)]) (g := gName 1) (tt := tOr (tTest (tOp rEq (tVar 1) (tC (V.int 0)))) (tTest (tOp rNe (tOp (GB.rIxB K) (tVar 0) (tVar 1)) (tOp (GB.rIxB K) (tVar 0) (tOp (rI0 fun i j => .int (i - j)) (tVar 1) (tC (V.int 1))))))) (te := tOp (GB.rIxB K) (tVar 0) (tVar 1)) rfl scTn.nd rfl rfl (sw_true rfl rfl rfl (by decide +kernel)) (pi_range1 rfl mr (pa_cons (pe_callB call_len_seq (by rfl) ml PySem.boot_len (pa_cons (pv 0) pa_nil)) pa_nil))
        (blkOk_by (own := [("k", 1)]) (N := ["load", "k", "once", "found", "here"]) (sc := defScope sTn) (by decide +kernel))
        (fun _ _ _ _ _ => pg_name (i := 1) scTn.nd rfl (Or.inl rfl) (Or.inr rfl))
        (fun _ _ _ _ _ => pts_one (PW.pt (pw_or (pt_cmpR op_eq (pv 1) pe_int (nomark _)) (pw_or1 (pt_cmpR op_ne (pe_ix GB.ix_both (pv 0) (pv 1) (fun _ _ => rfl)) (pe_ix GB.ix_both (pv 0) (pe_op op_sub (pv 1) pe_int) (fun _ _ => rfl)) (nomark _))))))
        (fun _ _ _ _ _ => pe_ix GB.ix_both (pv 0) (pv 1) (fun _ _ => rfl)))
      (pss_cons (ps_set (i := 3) scTn.nd rfl (.inl rfl) (pe_lst pa_nil))
      (pss_cons (ps_for PassesOwn.never rfl (pi_enum (by rfl) me (pa_cons (pv 2) pa_nil)) (pg_tup rfl (pgs_cons (pg_name (i := 1) scTn.nd rfl (.inl rfl)) (pgs_cons (pg_name (i := 4) scTn.nd rfl (.inl rfl)) pgs_nil)))
        (pss_one (ps_if (PW.pt (pw_or (pt_cmpR op_in_seq (pv 1) (pe_tup (pa_cons pe_int (pa_cons (pe_op op_sub (pe_callB call_len_seq (by rfl) ml PySem.boot_len (pa_cons (pv 2) pa_nil)) pe_int) pa_nil))) (by rfl))
            (pw_or1 (pt_cmpR op_eq (pe_cmpR op_lt (pe_ix ix_list (pv 2) (pe_op op_sub (pv 1) pe_int) (fun _ _ => rfl)) (pv 4) (nomark _)) (pe_cmpR op_lt (pe_ix ix_list (pv 2) (pe_op op_add (pv 1) pe_int) (fun _ _ => rfl)) (pv 4) (nomark _)) (nomark _)))))
          (pss_one (ps_expr (pe_bm PySem.F.plainAttrs_list PySem.F.slot_list_append PySem.F.type_list_append mt_append (pv 3) (pa_cons (pv 4) pa_nil)))) pss_nil)))
      (pss_one (ps_ret (pv 3))))), ?_⟩
    have hml : (ns.map V.int).length = ns.length := List.length_map _
    refine ⟨.ref a, rfl, a, ns.map V.int, rfl, hS, ((ns.map V.int).length : Int), rfl, by rw [hml]; omega, by rw [hml]; omega, fun D nD => ?_⟩
    have sD : ∀ o, Same H (upd H D o) := fun o => same_new nD
    refine lc_range (lo := 0) (n := (((ns.map V.int).length : Int)).toNat) (fun i H' => ∃ acc : List Int, H' = upd H D (.lst (acc.map V.int)) ∧ acc.length ≤ i ∧ dd ns = acc ++ ddr ns i) ?_ ?_ ?_
    · exact ⟨[], rfl, Nat.le_refl _, rfl⟩
    · rintro i H' hi ⟨acc, rfl, hal, hac⟩
      have hin : i < ns.length := by omega
      have ei : ns[i]? = some ns[i] := List.getElem?_eq_getElem hin
      have ax : atI (ns.map V.int) (0 + (i : Int)) = some (.int ns[i]) := at_of (by omega) (at_int ei)
      have elt : acc.length < sizeLine := small3000 (by omega)
      have grow : ∀ x : Int, upd (upd H D (.lst (acc.map V.int))) D (.lst (acc.map V.int ++ [.int x])) = upd H D (.lst ((acc ++ [x]).map V.int)) := fun x => by rw [upd_upd, List.map_append]; rfl
      refine ⟨rfl, .int (0 + (i : Int)), rfl, rfl, _, rfl, ?_⟩
      cases i with
      | zero =>
        refine iteT (iteT ⟨.ref a, rfl, _, rfl, a, _, _, .int ns[0], rfl, rfl, hS.same (sD _), ax, acc.map V.int, upd_same, by rw [List.length_map]; exact elt, acc ++ [ns[0]], grow _, by rw [List.length_append, List.length_singleton]; omega, ?_⟩)
        rw [hac, ddr_first ei, List.append_assoc]
        rfl
      | succ m =>
        have hne : decide (V.int (0 + ((m + 1 : Nat) : Int)) = V.int 0) = false := decide_eq_false fun z => by have := V.int.inj z; omega
        rw [hne]
        have hm : m < ns.length := by omega
        have em : ns[m]? = some ns[m] := List.getElem?_eq_getElem hm
        have nx := ddr_next em ei
        refine iteF ⟨.ref a, rfl, .int (0 + ((m + 1 : Nat) : Int)), rfl, a, _, _, .int ns[m + 1], rfl, rfl, hS.same (sD _), ax, .ref a, rfl, .int (0 + ((m + 1 : Nat) : Int)), rfl, _, 1, rfl, rfl, a, _, _, .int ns[m], rfl, rfl, hS.same (sD _), at_of (by omega) (at_int em), rfl, _, rfl, ?_⟩
        by_cases e : ns[m + 1] = ns[m]
        · rw [decide_eq_true (show V.int ns[m + 1] = V.int ns[m] by rw [e])]
          refine iteF ⟨acc, rfl, by omega, ?_⟩
          rw [if_pos e] at nx
          rw [hac, nx]
        · rw [decide_eq_false (show ¬ V.int ns[m + 1] = V.int ns[m] from fun z => e (V.int.inj z))]
          refine iteT ⟨.ref a, rfl, _, rfl, a, _, _, .int ns[m + 1], rfl, rfl, hS.same (sD _), ax, acc.map V.int, upd_same, by rw [List.length_map]; exact elt, acc ++ [ns[m + 1]], grow _, by rw [List.length_append, List.length_singleton]; omega, ?_⟩
          rw [if_neg e] at nx
          rw [hac, nx, List.append_assoc]
          rfl
    rintro H' ⟨acc, rfl, hal, hac⟩
    have en : (((ns.map V.int).length : Int)).toNat = ns.length := by rw [hml]; omega
    rw [en, ddr_end, List.append_nil] at hac
    subst hac
    generalize ho : dd ns = o
    have hol : o.length ≤ 2500 := by rw [← ho]; exact Nat.le_trans (dd_len ns) hlen
    have hom : (o.map V.int).length = o.length := List.length_map _
    -- found
    refine ⟨Nat.zero_le _, fun c nc => ?_⟩
    have ncD : c ≠ D := fun z => by rw [z, upd_same] at nc; cases nc
    have hc0 : H c = none := (sD _).free nc
    have s0 : Same H (upd (upd H D (.lst (o.map V.int))) c (.lst [])) := (sD _).trans (same_new nc)
    have eD0 : (upd (upd H D (.lst (o.map V.int))) c (.lst [])) D = some (.lst (o.map V.int)) := by rw [upd_ne ncD.symm, upd_same]
    have ec0 : (upd (upd H D (.lst (o.map V.int))) c (.lst [])) c = some (.lst (([] : List Int).map V.int)) := upd_same
    generalize upd (upd H D (.lst (o.map V.int))) c (.lst []) = H0 at s0 eD0 ec0 ⊢
    refine ⟨.ref D, rfl, D, o.map V.int, rfl, SqL.of eD0, for_it (walk_enum (K := K) (a := D) (xs := o.map V.int)) (fun i σ Hz => Same H Hz ∧ Hz D = some (.lst (o.map V.int)) ∧ ∃ (fnd : List Int) (r1 r4 : Option V), Hz c = some (.lst (fnd.map V.int)) ∧ Enm o i fnd ∧ fnd.length ≤ i ∧ σ = [some (.ref a), r1, some (.ref D), some (.ref c), r4]) ⟨s0, eD0, [], none, none, ec0, .inl ⟨rfl, rfl⟩, Nat.le_refl _, rfl⟩ (fun i σ Hz _ z => SqL.of z.2.1) ?_ ?_⟩
    · rintro i y σ Hz H2 hi ⟨sz, eD, fnd, r1, r4, ec, enm, hfl, rfl⟩ ⟨T, u, v, rfl, nT, rfl, g1, g2⟩
      rw [hom] at hi
      obtain rfl : u = .int (i : Nat) := (Option.some.inj g1).symm
      have g2 : (o.map V.int)[i]? = some v := g2
      obtain ⟨x, hx, rfl⟩ := int_at g2
      have sT : Same Hz (upd Hz T (.tup [.int (i : Nat), .int x])) := same_new nT
      have eD1 := sT _ _ eD
      have ec1 := sT _ _ ec
      have s1 := sz.trans sT
      have eT1 := upd_same (H := Hz) (a := T) (o := .tup [.int (i : Nat), .int x])
      generalize upd Hz T (.tup [.int (i : Nat), .int x]) = H3 at eD1 ec1 s1 eT1 ⊢
      refine ⟨T, _, rfl, SqT.of eT1, rfl, .int (i : Nat), [.int x], rfl, .int x, [], rfl, rfl, ?_⟩
      refine ⟨.int (i : Nat), rfl, .ref D, rfl, D, _, rfl, .inl (SqL.of eD1), _, 1, rfl, rfl, by show 2 ≤ sizeLine; decide, fun p np => ?_⟩
      have sp := same_new (o := .tup [.int 0, .int (((o.map V.int).length : Int) - 1)]) np
      refine ⟨p, _, rfl, .inr (SqT.of upd_same), rfl, rfl, _, rfl, ?_⟩
      have ein : inV (V.int (i : Nat)) [V.int 0, V.int (((o.map V.int).length : Int) - 1)] = (decide (i = 0) || decide (i + 1 = o.length)) := by
        show ((0 : Int) == (i : Int) || ((((o.map V.int).length : Int) - 1) == (i : Int) || false)) = _
        rw [hom, Bool.or_false]
        congr 1
        · rw [Bool.eq_iff_iff, beq_iff_eq, decide_eq_true_iff]; omega
        · rw [Bool.eq_iff_iff, beq_iff_eq, decide_eq_true_iff]; omega
      rw [ein]
      have eD2 := sp _ _ eD1
      have ec2 := sp _ _ ec1
      have s2 := s1.trans sp
      generalize upd H3 p (.tup [.int 0, .int (((o.map V.int).length : Int) - 1)]) = H4 at eD2 ec2 s2 ⊢
      have ecs : (fnd.map V.int).length < sizeLine := by rw [List.length_map]; exact small3000 (by omega)
      have fin : ∀ (b : Bool), Enm o (i + 1) (if b = true then fnd ++ [x] else fnd) → b = true → Same H (upd H4 c (.lst (fnd.map V.int ++ [.int x]))) ∧ (upd H4 c (.lst (fnd.map V.int ++ [.int x]))) D = some (.lst (o.map V.int)) ∧ ∃ (fnd' : List Int) (r1 r4 : Option V), (upd H4 c (.lst (fnd.map V.int ++ [.int x]))) c = some (.lst (fnd'.map V.int)) ∧ Enm o (i + 1) fnd' ∧ fnd'.length ≤ i + 1 ∧ ([some (.ref a), some (.int (i : Nat)), some (.ref D), some (.ref c), some (.int x)] : List (Option V)) = [some (.ref a), r1, some (.ref D), some (.ref c), r4] := fun b e hb => by
        subst hb
        refine ⟨same_again hc0 s2, by rw [upd_ne ncD.symm]; exact eD2, fnd ++ [x], _, _, by rw [upd_same, List.map_append]; rfl, e, by rw [List.length_append, List.length_singleton]; omega, rfl⟩
      by_cases z : i = 0 ∨ i + 1 = o.length
      · have e1 : (decide (i = 0) || decide (i + 1 = o.length)) = true := by
          rcases z with z | z
          · rw [decide_eq_true z]; rfl
          · rw [decide_eq_true z, Bool.or_true]
        rw [e1]
        refine iteT (iteT ⟨.ref c, rfl, .inl ⟨rfl, _, SqL.of ec2⟩, .int x, rfl, c, _, _, rfl, rfl, ec2, ecs, fin true ?_ rfl⟩)
        show Enm o (i + 1) (fnd ++ [x])
        by_cases z0 : i = 0
        · subst z0
          have ef : fnd = [] := List.length_eq_zero_iff.mp (by omega)
          subst ef
          exact enm_start hx
        · exact enm_last hx (by omega) (by omega) enm
      · have e1 : (decide (i = 0) || decide (i + 1 = o.length)) = false := by
          rw [decide_eq_false (fun y => z (.inl y)), decide_eq_false (fun y => z (.inr y))]
          rfl
        rw [e1]
        have hi1 : i - 1 < o.length := by omega
        have hi2 : i + 1 < o.length := by omega
        have gp := List.getElem?_eq_getElem hi1
        have gd := List.getElem?_eq_getElem hi2
        have enm2 := enm_mid gp hx gd (by omega) enm
        refine iteF ⟨.ref D, rfl, .int (i : Nat), rfl, _, 1, rfl, rfl, D, _, _, .int o[i - 1], rfl, rfl, SqL.of eD2, at_of (j := i - 1) (by omega) (at_int gp), .int x, rfl, o[i - 1], x, rfl, rfl, ?_⟩
        refine ⟨.ref D, rfl, .int (i : Nat), rfl, _, 1, rfl, rfl, D, _, _, .int o[i + 1], rfl, rfl, SqL.of eD2, at_of (j := i + 1) (by omega) (at_int gd), .int x, rfl, o[i + 1], x, rfl, rfl, rfl, _, rfl, ?_⟩
        by_cases e : decide (o[i - 1] < x) = decide (o[i + 1] < x)
        · rw [decide_eq_true (show V.bl (decide (o[i - 1] < x)) = V.bl (decide (o[i + 1] < x)) by rw [e])]
          rw [if_pos e] at enm2
          exact iteT ⟨.ref c, rfl, .inl ⟨rfl, _, SqL.of ec2⟩, .int x, rfl, c, _, _, rfl, rfl, ec2, ecs, fin true enm2 rfl⟩
        · rw [decide_eq_false (show ¬ V.bl (decide (o[i - 1] < x)) = V.bl (decide (o[i + 1] < x)) from fun z => e (V.bl.inj z))]
          rw [if_neg e] at enm2
          exact iteF ⟨s2, eD2, fnd, _, _, ec2, enm2, by omega, rfl⟩
    · rintro σ Hz ⟨sz, eD, fnd, r1, r4, ec, enm, hfl, rfl⟩
      rw [hom] at enm
      refine ⟨.ref c, rfl, hq Hz c sz hc0 ?_⟩
      rw [ec, enm_end enm, tp_lp, ho]
theorem ok_hs {f : Addr} {fd : FuncData} {k : Nat} (F : Fun K "_law_has" "_law_has" sHs f fd) : FnOk P w K mg base CX0 (k + 1) f fd ["outer", "inner"] (spCont K) := by
  refine F.ok scHs (fun vs H Q E h => ?_) (fun cdv A outer s H vs Q E hr h => ?_)
  · obtain ⟨p, q, a, b, c, d, rfl, _⟩ := h
    rfl
  · obtain ⟨p, q, a, b, c, d, rfl, h1, h2, hq⟩ := h
    refine ⟨_, pss_one (ps_ret (pe_and (pe_cmpR op_le (pe_ix ix_tup (pv 0) pe_int (fun _ _ => rfl)) (pe_ix ix_tup (pv 1) pe_int (fun _ _ => rfl)) (nomark _)) (pe_one (pe_cmpR op_le (pe_ix ix_tup (pv 1) pe_int (fun _ _ => rfl)) (pe_ix ix_tup (pv 0) pe_int (fun _ _ => rfl)) (nomark _))))), ?_⟩
    refine ⟨.ref p, rfl, p, _, 0, .int a, rfl, rfl, h1, rfl, .ref q, rfl, q, _, 0, .int c, rfl, rfl, h2, rfl, a, c, rfl, rfl, _, rfl, ?_⟩
    by_cases e : a ≤ c
    · rw [decide_eq_true e] at hq ⊢
      exact iteT ⟨.ref q, rfl, q, _, 1, .int d, rfl, rfl, h2, rfl, .ref p, rfl, p, _, 1, .int b, rfl, rfl, h1, rfl, d, b, rfl, rfl, hq⟩
    · rw [decide_eq_false e] at hq ⊢
      exact iteF hq
theorem ok_rn {f : Addr} {fd : FuncData} {k : Nat} (F : Fun K "_law_range" "_law_range" sRn f fd) (mn : mg "min" = none) (mx : mg "max" = none) : FnOk P w K mg base CX0 (k + 1) f fd ["first", "second"] spRng := by
  refine F.ok scRn (fun vs H Q E h => ?_) (fun cdv A outer s H vs Q E hr h => ?_)
  · obtain ⟨a, b, rfl, _⟩ := h
    rfl
  · obtain ⟨a, b, rfl, hq⟩ := h
    refine ⟨_, pss_one (ps_ret (pe_tup (pa_cons (pe_callB (call_min2 rfl) (by rfl) mn (by decide +kernel) (pa_cons (pv 0) (pa_cons (pv 1) pa_nil))) (pa_cons (pe_callB (call_max2 rfl) (by rfl) mx (by decide +kernel) (pa_cons (pv 0) (pa_cons (pv 1) pa_nil))) pa_nil)))), ?_⟩
    exact ⟨.int a, rfl, .int b, rfl, a, b, rfl, .int a, rfl, .int b, rfl, a, b, rfl, by show 2 ≤ sizeLine; decide, fun p np => hq p np⟩
def spMy (K : PySem.W.Frag) : Sp := fun vs H Q _ => ∃ (a : Addr) (ps : List Int) (i : Nat) (z : Int), vs = [.ref a, .int z] ∧ z = (i : Int) + 1 ∧ SqL K H a (ps.map V.int) ∧ i + 3 < ps.length ∧ ∀ H', Same H H' → Q (.bl (takenAt ps i)) H'
theorem ok_my {f : Addr} {fd : FuncData} {fRN : Addr} {dRN : FuncData} {fHS : Addr} {dHS : FuncData} {k : Nat} (F : Fun K "_law_may_take" "_law_may_take" sMy f fd) (GRN : FnOk P w K mg base CX0 (k + 1) fRN dRN ["first", "second"] spRng) (gRN : mg "_law_range" = some (.ref fRN)) (kRN : PySem.W.keepIn K (.ref fRN) = true) (bRN : Binds K dRN ["first", "second"] []) (GHS : FnOk P w K mg base CX0 (k + 1) fHS dHS ["outer", "inner"] (spCont K)) (gHS : mg "_law_has" = some (.ref fHS)) (kHS : PySem.W.keepIn K (.ref fHS) = true) (bHS : Binds K dHS ["outer", "inner"] []) : FnOk P w K mg base CX0 (k + 2) f fd ["points", "k"] (spMy K) := by
  refine F.ok scMy (fun vs H Q E h => ?_) (fun cdv A outer s H vs Q E hr h => ?_)
  · obtain ⟨a, ps, i, z, rfl, rfl, hS, hl, hq⟩ := h
    rfl
  · obtain ⟨a, ps, i, z, rfl, rfl, hS, hl, hq⟩ := h
    refine ⟨_, (pss_cons (ps_set (i := 2) scMy.nd rfl (.inl rfl) (pe_call GRN hr (by rfl) gRN kRN bRN .nil pass0 (pa_cons (pe_ix ix_list (pv 0) (pv 1) (fun _ _ => rfl)) (pa_cons (pe_ix ix_list (pv 0) (pe_op op_add (pv 1) pe_int) (fun _ _ => rfl)) pa_nil))))
      (pss_cons (ps_if (pt_not (pt_val (pe_call GHS hr (by rfl) gHS kHS bHS .nil pass0 (pa_cons (pe_call GRN hr (by rfl) gRN kRN bRN .nil pass0 (pa_cons (pe_ix ix_list (pv 0) (pe_op op_sub (pv 1) pe_int) (fun _ _ => rfl)) (pa_cons (pe_ix ix_list (pv 0) (pv 1) (fun _ _ => rfl)) pa_nil))) (pa_cons (pv 2) pa_nil))))) (pss_one (ps_ret pe_bl)) pss_nil)
      (pss_one (ps_ret (pe_call GHS hr (by rfl) gHS kHS bHS .nil pass0 (pa_cons (pe_call GRN hr (by rfl) gRN kRN bRN .nil pass0 (pa_cons (pe_ix ix_list (pv 0) (pe_op op_add (pv 1) pe_int) (fun _ _ => rfl)) (pa_cons (pe_ix ix_list (pv 0) (pe_op op_add (pv 1) pe_int) (fun _ _ => rfl)) pa_nil))) (pa_cons (pv 2) pa_nil))))))), ?_⟩
    obtain ⟨x, e0⟩ : ∃ x, ps[i]? = some x := ⟨_, List.getElem?_eq_getElem (by omega)⟩
    obtain ⟨y, e1⟩ : ∃ x, ps[i + 1]? = some x := ⟨_, List.getElem?_eq_getElem (by omega)⟩
    obtain ⟨t, e2⟩ : ∃ x, ps[i + 2]? = some x := ⟨_, List.getElem?_eq_getElem (by omega)⟩
    obtain ⟨u, e3⟩ : ∃ x, ps[i + 3]? = some x := ⟨_, List.getElem?_eq_getElem (by omega)⟩
    have a0 : atI (ps.map V.int) ((i : Int) + 1 - 1) = some (.int x) := at_of (j := i) (by omega) (at_int e0)
    have a1 : atI (ps.map V.int) ((i : Int) + 1) = some (.int y) := at_of (j := i + 1) (by omega) (at_int e1)
    have a2 : atI (ps.map V.int) ((i : Int) + 1 + 1) = some (.int t) := at_of (j := i + 2) (by omega) (at_int e2)
    have a3 : atI (ps.map V.int) ((i : Int) + 1 + 2) = some (.int u) := at_of (j := i + 3) (by omega) (at_int e3)
    refine ⟨.ref a, rfl, .int ((i : Int) + 1), rfl, a, _, _, .int y, rfl, rfl, hS, a1, .ref a, rfl, .int ((i : Int) + 1), rfl, _, 1, rfl, rfl, a, _, _, .int t, rfl, rfl, hS, a2, y, t, rfl, fun p1 n1 => ?_⟩
    have s1 := same_new n1 (o := .tup [.int (rg y t).1, .int (rg y t).2])
    have h1 : (upd H p1 (.tup [.int (rg y t).1, .int (rg y t).2])) p1 = some (.tup [.int (rg y t).1, .int (rg y t).2]) := upd_same
    generalize upd H p1 (.tup [.int (rg y t).1, .int (rg y t).2]) = H1 at s1 h1 ⊢
    refine ⟨.ref a, rfl, .int ((i : Int) + 1), rfl, _, 1, rfl, rfl, a, _, _, .int x, rfl, rfl, s1.seq hS, a0, .ref a, rfl, .int ((i : Int) + 1), rfl, a, _, _, .int y, rfl, rfl, s1.seq hS, a1, x, y, rfl, fun p2 n2 => ?_⟩
    have s2 := same_new n2 (o := .tup [.int (rg x y).1, .int (rg x y).2])
    have h2 : (upd H1 p2 (.tup [.int (rg x y).1, .int (rg x y).2])) p2 = some (.tup [.int (rg x y).1, .int (rg x y).2]) := upd_same
    generalize upd H1 p2 (.tup [.int (rg x y).1, .int (rg x y).2]) = H2 at s2 h2 ⊢
    have tk := taken_get e0 e1 e2 e3
    refine ⟨.ref p1, rfl, p2, p1, _, _, _, _, rfl, SqT.of h2, SqT.of (s2 _ _ h1), _, rfl, ?_⟩
    cases c1 : (decide ((rg x y).1 ≤ (rg y t).1) && decide ((rg y t).2 ≤ (rg x y).2)) with
    | false =>
      have : takenAt ps i = false := by
        rw [tk]
        refine decide_eq_false fun z => ?_
        rw [decide_eq_true z.1.1, decide_eq_true z.1.2] at c1
        cases c1
      have hq := hq _ (s1.trans s2)
      rw [this] at hq
      exact iteT hq
    | true =>
      refine iteF ?_
      have sS := (s1.trans s2).seq hS
      refine ⟨.ref a, rfl, .int ((i : Int) + 1), rfl, _, 1, rfl, rfl, a, _, _, .int t, rfl, rfl, sS, a2, .ref a, rfl, .int ((i : Int) + 1), rfl, _, 2, rfl, rfl, a, _, _, .int u, rfl, rfl, sS, a3, t, u, rfl, fun p3 n3 => ?_⟩
      have s3 := same_new n3 (o := .tup [.int (rg t u).1, .int (rg t u).2])
      refine ⟨.ref p1, rfl, p3, p1, _, _, _, _, rfl, SqT.of upd_same, SqT.of (s3 _ _ (s2 _ _ h1)), ?_⟩
      have hq := hq _ ((s1.trans s2).trans s3)
      rw [show takenAt ps i = (decide ((rg t u).1 ≤ (rg y t).1) && decide ((rg y t).2 ≤ (rg t u).2)) by
        rw [tk, ← Bool.decide_and, decide_eq_decide]
        rw [← Bool.decide_and] at c1
        exact ⟨fun z => z.2, fun z => ⟨of_decide_eq_true c1, z⟩⟩] at hq
      exact hq
def spCt (K : PySem.W.Frag) : Sp := fun vs H Q _ => ∃ (a : Addr) (ns : List Int), vs = [.ref a] ∧ Sq K H a (ns.map V.int) ∧ ns.length ≤ 2000 ∧
  ∀ H' p c r xs cs rs, Same H H' → H' p = some (.tup [.ref c, .ref r]) → H' c = some (.lst xs) → PairsAt H' xs cs → H' r = some (.lst (rs.map V.int)) → H r = none → H c = none → cs.length ≤ ns.length → rs.length ≤ ns.length → (∀ x ∈ rs, x ∈ ns) → (∀ q ∈ cs, q.1 ∈ ns ∧ q.2 ∈ ns) →
    decide (rs = tp ns) = (plc (tp ns)).isEmpty → Q (.ref p) H'
theorem plc_lc {K : PySem.W.Frag} {a pp cc : Addr} {r3 r4 : Option V} {Hx : Hp} {ps : List Int} {Q : VK} (hp : Hx pp = some (.lst (ps.map V.int))) (hlen : ps.length ≤ 2000)
    (hq : ∀ H' D, Same Hx H' → Hx D = none → H' D = some (.lst ((plc ps).map V.int)) → Q (.ref D) H') :
    tLc (iRng2 (tCons (tC (V.int 1)) (tCons (tOp (rI0 fun i j => V.int (i - j)) (tCB (fun xs H Q => ∃ p ys, xs = [V.ref p] ∧ (SqL K H p ys ∨ SqT K H p ys) ∧ Q (.int ys.length) H) (tCons (tVar 1) tNil)) (tC (V.int 2))) tNil))) (gName 3)
      (tB (tCall (spMy K) [] E0 (tCons (tVar 1) (tCons (tVar 3) tNil)))) (tVar 3) (List.map (fun x => x.2) [(("k" : Str), 3)]) [some (.ref a), some (.ref pp), some (.ref cc), r3, r4] Hx Q := by
  have hm : (ps.map V.int).length = ps.length := List.length_map _
  refine ⟨.ref pp, rfl, pp, _, rfl, .inl (SqL.of hp), _, 2, rfl, rfl, 1, _, rfl, ⟨by decide, by decide, by rw [hm]; omega, by rw [hm]; omega⟩, fun D nD => ?_⟩
  refine lc_range (lo := 1) (n := ((((ps.map V.int).length : Int) - 2) - 1).toNat) (fun i H' => Same Hx H' ∧ H' D = some (.lst ((((List.range i).filter (takenAt ps)).map fun (i : Nat) => (i : Int) + 1).map V.int))) ⟨same_new nD, upd_same⟩ ?_ ?_
  · rintro i H' hi ⟨sm, eD⟩
    rw [hm] at hi
    have hl : i + 3 < ps.length := by omega
    have ez : (1 : Int) + (i : Int) = (i : Int) + 1 := by omega
    refine ⟨rfl, .ref pp, rfl, .int (1 + (i : Int)), rfl, pp, ps, i, _, rfl, ez, SqL.of (sm _ _ hp), hl, fun H2 s2 => ⟨_, rfl, ?_⟩⟩
    cases ht : takenAt ps i with
    | true =>
      refine iteT ⟨.int (1 + (i : Int)), rfl, _, s2 _ _ eD, ?_, same_again nD (sm.trans s2), ?_⟩
      · rw [List.length_map, List.length_map]
        have := List.length_filter_le (takenAt ps) (List.range i)
        rw [List.length_range] at this
        exact small3000 (by omega)
      · rw [upd_same, List.range_succ, List.filter_append, List.filter_cons, ht, ez]
        simp [List.map_append]
    | false =>
      refine iteF ⟨sm.trans s2, ?_⟩
      rw [List.range_succ, List.filter_append, List.filter_cons, ht]
      simp
      rw [s2 _ _ eD]
      simp
  · rintro H' ⟨sm, eD⟩
    have en : ((((ps.map V.int).length : Int) - 2) - 1).toNat = ps.length - 3 := by rw [hm]; omega
    rw [en] at eD
    exact hq _ D sm nD eD
theorem ok_ct {f : Addr} {fd : FuncData} {fTN : Addr} {dTN : FuncData} {fRN : Addr} {dRN : FuncData} {fMY : Addr} {dMY : FuncData} {k : Nat} (F : Fun K "_law_count" "_law_count" sCt f fd) (GTN : FnOk P w K mg base CX0 (k + 1) fTN dTN ["load"] (spTn K)) (gTN : mg "_law_turns" = some (.ref fTN)) (kTN : PySem.W.keepIn K (.ref fTN) = true) (bTN : Binds K dTN ["load"] []) (GRN : FnOk P w K mg base CX0 (k + 1) fRN dRN ["first", "second"] spRng) (gRN : mg "_law_range" = some (.ref fRN)) (kRN : PySem.W.keepIn K (.ref fRN) = true) (bRN : Binds K dRN ["first", "second"] []) (GMY : FnOk P w K mg base CX0 (k + 2) fMY dMY ["points", "k"] (spMy K)) (gMY : mg "_law_may_take" = some (.ref fMY)) (kMY : PySem.W.keepIn K (.ref fMY) = true) (bMY : Binds K dMY ["points", "k"] []) (ml : mg "len" = none) (mr : mg "range" = none) (mso : mg "sorted" = none) : FnOk P w K mg base CX0 (k + 3) f fd ["load"] (spCt K) := by
  refine F.ok scCt (fun vs H Q E h => ?_) (fun cdv A outer s H vs Q E hr h => ?_)
  · obtain ⟨a, ns, rfl, hS, hlen, hq⟩ := h
    rfl
  · obtain ⟨a, ns, rfl, hS, hlen, hq⟩ := h
    refine ⟨_, (pss_cons (ps_asg (pe_tup (pa_cons (pe_call (GTN.mono (show k + 1 ≤ k + 2 by omega)) hr (by rfl) gTN kTN bTN .nil pass0 (pa_cons (pv 0) pa_nil)) (pa_cons (pe_lst pa_nil) pa_nil))) (pg_tup rfl (pgs_cons (pg_name (i := 1) scCt.nd rfl (.inr rfl)) (pgs_cons (pg_name (i := 2) scCt.nd rfl (.inl rfl)) pgs_nil))))
      (pss_cons (ps_setLc (i := 4) (own := [("k", 3)]) (g := gName 3) (tt := tB (tCall (spMy K) [] E0 (tCons (tVar 1) (tCons (tVar 3) tNil))))  rfl scCt.nd rfl rfl (sw_true rfl rfl rfl (by decide +kernel)) (pi_range2 rfl mr (pa_cons pe_int (pa_cons (pe_op op_sub (pe_callB call_len_seq (by rfl) ml PySem.boot_len (pa_cons (pv 1) pa_nil)) pe_int) pa_nil))) (blkOk_by (own := [("k", 3)]) (N := ["load", "points", "cycles", "k", "places"]) (sc := defScope sCt) (by decide +kernel)) (fun _ _ _ _ _ => (pg_name (i := 3) scCt.nd rfl (Or.inl rfl) (Or.inr rfl))) (fun _ _ _ _ _ => pts_one (pt_val (pe_call (GMY.mono (show k + 2 ≤ k + 2 by omega)) hr (by rfl) gMY kMY bMY .nil pass0 (pa_cons (pv 1) (pa_cons (pv 3) pa_nil))))) (fun _ _ _ _ _ => (pv 3)))
      (pss_cons (ps_while PassesOwn.never (pt_cmpR (op_neD hr.units) (pv 4) (pe_lst pa_nil) (nomark _))
      (pss_cons (ps_set (i := 3) scCt.nd rfl (.inl rfl) (pe_ix ix_list (pv 4) pe_int (fun _ _ => rfl)))
      (pss_cons (ps_expr (pe_bm PySem.F.plainAttrs_list PySem.F.slot_list_append PySem.F.type_list_append mt_append (pv 2) (pa_cons (pe_call (GRN.mono (show k + 1 ≤ k + 2 by omega)) hr (by rfl) gRN kRN bRN .nil pass0 (pa_cons (pe_ix ix_list (pv 1) (pv 3) (fun _ _ => rfl)) (pa_cons (pe_ix ix_list (pv 1) (pe_op op_add (pv 3) pe_int) (fun _ _ => rfl)) pa_nil))) pa_nil)))
      (pss_cons (ps_set (i := 1) scCt.nd rfl (.inr rfl) (pe_op op_cat (pe_slice sl_list (pv 1) po_none (po_some (pv 3))) (pe_slice sl_list (pv 1) (po_some (pe_op op_add (pv 3) pe_int)) po_none)))
      (pss_one (ps_setLc (i := 4) (own := [("k", 3)]) (g := gName 3) (tt := tB (tCall (spMy K) [] E0 (tCons (tVar 1) (tCons (tVar 3) tNil))))  rfl scCt.nd rfl rfl (sw_true rfl rfl rfl (by decide +kernel)) (pi_range2 rfl mr (pa_cons pe_int (pa_cons (pe_op op_sub (pe_callB call_len_seq (by rfl) ml PySem.boot_len (pa_cons (pv 1) pa_nil)) pe_int) pa_nil))) (blkOk_by (own := [("k", 3)]) (N := ["load", "points", "cycles", "k", "places"]) (sc := defScope sCt) (by decide +kernel)) (fun _ _ _ _ _ => (pg_name (i := 3) scCt.nd rfl (Or.inl rfl) (Or.inr rfl))) (fun _ _ _ _ _ => pts_one (pt_val (pe_call (GMY.mono (show k + 2 ≤ k + 2 by omega)) hr (by rfl) gMY kMY bMY .nil pass0 (pa_cons (pv 1) (pa_cons (pv 3) pa_nil))))) (fun _ _ _ _ _ => (pv 3))))))))
      (pss_one (ps_ret (pe_tup (pa_cons (pe_callB cr_sortedPO (by rfl) mso (by decide +kernel) (pa_cons (pv 2) pa_nil)) (pa_cons (pv 1) pa_nil)))))))), ?_⟩
    have hl0 : (tp ns).length ≤ ns.length := tp_len ns
    refine ⟨.ref a, rfl, a, ns, rfl, hS, by omega, fun H1 pp s1 np ep => ⟨Nat.zero_le _, fun cc nc => ⟨(show 2 ≤ sizeLine by decide), fun q nq => ?_⟩⟩⟩
    refine ⟨q, [.ref pp, .ref cc], rfl, SqT.of upd_same, rfl, .ref pp, _, rfl, .ref cc, _, rfl, rfl, ?_⟩
    have sc := same_new nc (o := .lst [])
    have sq := same_new nq (o := .tup [.ref pp, .ref cc])
    have ep3 := sq _ _ (sc _ _ ep)
    have ec3 := sq _ _ (upd_same (H := H1) (a := cc) (o := .lst []))
    have s3 := (s1.trans sc).trans sq
    have ncp : pp ≠ cc := fun z => by rw [z, nc] at ep; cases ep
    have nc0 : H cc = none := s1.free nc
    generalize upd (upd H1 cc (.lst [])) q (.tup [.ref pp, .ref cc]) = H3 at ep3 ec3 s3 ⊢
    clear sc sq nq ep s1 nc H1
    dsimp only [tSeq, tAsg, gName]
    refine plc_lc ep3 (by omega) fun H4 D s4 nD eD => ?_
    refine ⟨fun n σ Hx => ∃ (p1 l1 : Addr) (ps : List Int) (xs : List V) (cs : List (Int × Int)) (r3 : Option V), n = ps.length ∧ Same H Hx ∧ H p1 = none ∧ Hx p1 = some (.lst (ps.map V.int)) ∧ Hx cc = some (.lst xs) ∧ p1 ≠ cc ∧ PairsAt Hx xs cs ∧ Hx l1 = some (.lst ((plc ps).map V.int)) ∧ 2 * cs.length + ps.length = (tp ns).length ∧ (∀ x ∈ ps, x ∈ ns) ∧ (∀ q ∈ cs, q.1 ∈ ns ∧ q.2 ∈ ns) ∧ (cs = [] → ps = tp ns) ∧ (cs ≠ [] → plc (tp ns) ≠ []) ∧ σ = [some (.ref a), some (.ref p1), some (.ref cc), r3, some (.ref l1)],
      ⟨_, pp, D, tp ns, [], [], none, rfl, s3.trans s4, np, s4 _ _ ep3, s4 _ _ ec3, ncp, trivial, eD, by simp, fun x hx => tp_mem hx, fun _ z => (List.not_mem_nil z).elim, fun _ => rfl, fun z => absurd rfl z, rfl⟩, ?_⟩
    clear eD nD s4 ec3 ep3 s3 H4 H3 ncp np
    rintro n σ Hx ⟨p1, l1, ps, xs, cs, r3, rfl, sx, np1, hp1, hcx, npc, pa, hl1, hlen2, hmem, hcs, h0, h1', rfl⟩
    refine ⟨.ref l1, rfl, Nat.zero_le _, fun e1 ne1 => ?_⟩
    have se1 := same_new ne1 (o := .lst [])
    refine ⟨.list (dInts (plc ps)), .list (dInts []), .lst (SqL.of (se1 _ _ hl1)) (dp_ints _), .lst (SqL.of upd_same) (dp_ints []), shaped_lst _, shaped_lst [], _, rfl, ?_⟩
    rw [ev_lst]
    have sy := sx.trans se1
    have hpy := se1 _ _ hp1
    have hcy := se1 _ _ hcx
    have pay := pa.same se1
    have hly := se1 _ _ hl1
    generalize upd Hx e1 (.lst []) = Hy at sy hpy hcy pay hly ⊢
    clear se1 ne1 e1 hl1 pa hcx hp1 sx Hx
    cases hpl : plc ps with
    | nil =>
      refine iteF ?_
      refine ⟨.ref cc, rfl, cc, xs, kOf Hy, rfl, SqL.of hcy, (pairs_key pay).2, fun ys sp g1 g2 nsp => ?_⟩
      obtain ⟨es, pe, perm, srt⟩ := sorted_out pay g1 g2
      have ss := same_new nsp (o := .lst ys)
      refine ⟨.ref p1, rfl, (show 2 ≤ sizeLine by decide), fun tt ntt => ?_⟩
      have st := same_new ntt (o := .tup [.ref sp, .ref p1])
      have el := perm.length_eq
      refine hq _ tt sp p1 ys es ps ((sy.trans ss).trans st) upd_same (st _ _ upd_same) ((pe.same ss).same st) (st _ _ (ss _ _ hpy)) np1 (sy.free nsp) (by omega) (by omega) hmem (fun q hq => hcs q (perm.mem_iff.mp hq)) ?_
      cases hc : cs with
      | nil =>
        have e := h0 hc
        rw [decide_eq_true e, ← e, hpl]
        rfl
      | cons c0 cr =>
        have hne : cs ≠ [] := by rw [hc]; exact List.cons_ne_nil _ _
        have g := h1' hne
        have : ps ≠ tp ns := fun z => by
          have := congrArg List.length z
          rw [hc, List.length_cons] at hlen2
          omega
        rw [decide_eq_false this]
        cases hz : plc (tp ns) with
        | nil => exact absurd hz g
        | cons _ _ => rfl
    | cons z zs =>
      obtain ⟨i, rfl, ti⟩ := plc_mem (ps := ps) (x := z) (by rw [hpl]; exact List.mem_cons_self)
      have hil := taken_lt ti
      refine iteT ⟨fun σ Hx => ∃ m', m' < ps.length ∧ ∃ (p1 l1 : Addr) (ps : List Int) (xs : List V) (cs : List (Int × Int)) (r3 : Option V), m' = ps.length ∧ Same H Hx ∧ H p1 = none ∧ Hx p1 = some (.lst (ps.map V.int)) ∧ Hx cc = some (.lst xs) ∧ p1 ≠ cc ∧ PairsAt Hx xs cs ∧ Hx l1 = some (.lst ((plc ps).map V.int)) ∧ 2 * cs.length + ps.length = (tp ns).length ∧ (∀ x ∈ ps, x ∈ ns) ∧ (∀ q ∈ cs, q.1 ∈ ns ∧ q.2 ∈ ns) ∧ (cs = [] → ps = tp ns) ∧ (cs ≠ [] → plc (tp ns) ≠ []) ∧ σ = [some (.ref a), some (.ref p1), some (.ref cc), r3, some (.ref l1)], fun _ _ z => z, ?_⟩
      rw [hpl] at hly
      obtain ⟨y, e1⟩ : ∃ x, ps[i + 1]? = some x := ⟨_, List.getElem?_eq_getElem (by omega)⟩
      obtain ⟨t, e2⟩ : ∃ x, ps[i + 2]? = some x := ⟨_, List.getElem?_eq_getElem (by omega)⟩
      have a1 : atI (ps.map V.int) ((i : Int) + 1) = some (.int y) := at_of (j := i + 1) (by omega) (at_int e1)
      have a2 : atI (ps.map V.int) ((i : Int) + 1 + 1) = some (.int t) := at_of (j := i + 2) (by omega) (at_int e2)
      refine ⟨.ref l1, rfl, l1, _, 0, .int ((i : Int) + 1), rfl, rfl, SqL.of hly, at_of (j := 0) (by decide) rfl, ?_⟩
      refine ⟨.ref cc, rfl, .inl ⟨rfl, _, SqL.of hcy⟩, .ref p1, rfl, .int ((i : Int) + 1), rfl, p1, _, _, .int y, rfl, rfl, SqL.of hpy, a1, .ref p1, rfl, .int ((i : Int) + 1), rfl, _, 1, rfl, rfl, p1, _, _, .int t, rfl, rfl, SqL.of hpy, a2, y, t, rfl, fun pr npr => ?_⟩
      have spr := same_new npr (o := .tup [.int (rg y t).1, .int (rg y t).2])
      have lxs : xs.length = cs.length := pay.length
      refine ⟨cc, xs, .ref pr, rfl, rfl, spr _ _ hcy, small3000 (by omega), ?_⟩
      have sy5 : Same H (upd (upd Hy pr (.tup [.int (rg y t).1, .int (rg y t).2])) cc (.lst (xs ++ [.ref pr]))) := same_again nc0 (sy.trans spr)
      have hp5 : (upd (upd Hy pr (.tup [.int (rg y t).1, .int (rg y t).2])) cc (.lst (xs ++ [.ref pr]))) p1 = some (.lst (ps.map V.int)) := by rw [upd_ne npc]; exact spr _ _ hpy
      have hc5 : (upd (upd Hy pr (.tup [.int (rg y t).1, .int (rg y t).2])) cc (.lst (xs ++ [.ref pr]))) cc = some (.lst (xs ++ [.ref pr])) := upd_same
      have pa5 : PairsAt (upd (upd Hy pr (.tup [.int (rg y t).1, .int (rg y t).2])) cc (.lst (xs ++ [.ref pr]))) (xs ++ [.ref pr]) (cs ++ [rg y t]) := pairs_upd (spr _ _ hcy) ((pay.same spr).append ⟨⟨pr, rfl, upd_same⟩, trivial⟩)
      generalize upd (upd Hy pr (.tup [.int (rg y t).1, .int (rg y t).2])) cc (.lst (xs ++ [.ref pr])) = H5 at sy5 hp5 hc5 pa5 ⊢
      clear spr npr hcy hpy hly pay sy Hy
      refine ⟨.ref p1, rfl, .int ((i : Int) + 1), rfl, _, rfl, p1, _, rfl, SqL.of hp5, fun q1 n1 => ?_⟩
      have t1 := same_new n1 (o := .lst (cutV (ps.map V.int) none (some ((i : Int) + 1))))
      refine ⟨.ref p1, rfl, .int ((i : Int) + 1), rfl, _, 2, rfl, rfl, _, rfl, p1, _, rfl, SqL.of (t1 _ _ hp5), fun q2 n2 => ?_⟩
      have t2 := same_new n2 (o := .lst (cutV (ps.map V.int) (some ((i : Int) + 1 + 2)) none))
      have k1 : cutV (ps.map V.int) none (some ((i : Int) + 1)) = (ps.take (i + 1)).map V.int := by
        rw [show (i : Int) + 1 = ((i + 1 : Nat) : Int) by omega, cut_to, List.map_take]
      have k2 : cutV (ps.map V.int) (some ((i : Int) + 1 + 2)) none = (ps.drop (i + 3)).map V.int := by
        rw [show (i : Int) + 1 + 2 = ((i + 3 : Nat) : Int) by omega, cut_from, List.map_drop]
      refine ⟨q1, q2, _, _, rfl, rfl, t2 _ _ upd_same, upd_same, ?_, fun q3 n3 => ?_⟩
      · rw [k1, k2, List.length_map, List.length_map, List.length_take, List.length_drop]
        exact Nat.le_of_lt (small3000 (by omega))
      have t3 := same_new n3 (o := .lst (cutV (ps.map V.int) none (some ((i : Int) + 1)) ++ cutV (ps.map V.int) (some ((i : Int) + 1 + 2)) none))
      have tt := (t1.trans t2).trans t3
      have nq3 : q3 ≠ cc := fun z => by
        have := (t1.trans t2) _ _ hc5
        rw [z, this] at n3
        cases n3
      have nH3 : H q3 = none := (sy5.trans (t1.trans t2)).free n3
      have hq3 := upd_same (H := upd (upd H5 q1 (.lst (cutV (ps.map V.int) none (some ((i : Int) + 1))))) q2 (.lst (cutV (ps.map V.int) (some ((i : Int) + 1 + 2)) none))) (a := q3) (o := .lst (cutV (ps.map V.int) none (some ((i : Int) + 1)) ++ cutV (ps.map V.int) (some ((i : Int) + 1 + 2)) none))
      generalize upd (upd (upd H5 q1 (.lst (cutV (ps.map V.int) none (some ((i : Int) + 1))))) q2 (.lst (cutV (ps.map V.int) (some ((i : Int) + 1 + 2)) none))) q3 (.lst (cutV (ps.map V.int) none (some ((i : Int) + 1)) ++ cutV (ps.map V.int) (some ((i : Int) + 1 + 2)) none)) = H6 at tt hq3 ⊢
      rw [k1, k2, ← List.map_append] at hq3
      have lnew : (ps.take (i + 1) ++ ps.drop (i + 3)).length = ps.length - 2 := by rw [List.length_append, List.length_take, List.length_drop]; omega
      dsimp only [tSeq, tAsg, gName]
      refine plc_lc hq3 (by omega) fun H7 D7 s7 n7 e7 => ?_
      refine ⟨(ps.take (i + 1) ++ ps.drop (i + 3)).length, by omega, q3, D7, ps.take (i + 1) ++ ps.drop (i + 3), xs ++ [.ref pr], cs ++ [rg y t], _, rfl, (sy5.trans tt).trans s7, nH3, s7 _ _ hq3, s7 _ _ (tt _ _ hc5), nq3, (pa5.same tt).same s7, e7, by rw [lnew, List.length_append, List.length_singleton]; omega, ?_, ?_, fun z => absurd z (by simp), fun _ => ?_, rfl⟩
      · intro x hx
        rcases List.mem_append.mp hx with z | z
        · exact hmem x (List.mem_of_mem_take z)
        · exact hmem x (List.mem_of_mem_drop z)
      · intro r hr
        rcases List.mem_append.mp hr with z | z
        · exact hcs r z
        · rw [List.mem_singleton.mp z]
          exact rg_mem (hmem _ (List.mem_of_getElem? e1)) (hmem _ (List.mem_of_getElem? e2))
      · cases hc : cs with
        | nil =>
          rw [← h0 hc, hpl]
          exact List.cons_ne_nil _ _
        | cons _ _ => exact h1' (by rw [hc]; exact List.cons_ne_nil _ _)
end
end M3W

/-! xs[::-1] of a list -/
namespace GR
open PySem PySem.Spec PyProof.Rows L2
def tBack (K : PySem.W.Frag) (te : TE) (tk : TO) : TE := fun σ H Q => te σ H fun v H1 => tk σ H1 fun o H2 => o = some (-1) ∧ ∃ a xs, v = .ref a ∧ SqL K H2 a xs ∧ ∀ p, H2 p = none → Q (.ref p) (upd H2 p (.lst xs.reverse))
theorem pe_back {X : Cx} {e st : Expr} {te : TE} {tk : TO} {p2 pos : Pos} (he : PE X e te) (hk : PO X (some st) tk) : PE X (.Subscript e (.Slice none none (some st) p2) pos) (tBack X.K te tk) := by
  refine ⟨fun pins s σ H Q I h => ?_⟩
  refine Subscript_ (thn (he.run pins s σ H _ I h) fun v s1 ⟨x, H1, I1, r1, q1⟩ => ?_)
  refine wpAny_Slice ?_
  rw [evalPart_none]
  refine wpAny_pure ?_
  refine wpAny_pure ?_
  refine thn (hk.run pins s1 σ H1 _ I1 q1) fun vk s2 ⟨o, H2, I2, pk, q2⟩ => ?_
  obtain ⟨rfl, a, xs, rfl, hx, q⟩ := q2
  have I4 : Inv X pins σ H2 { s2 with heap := s2.heap.push { cls := .type "slice", data := .fields #[.none, .none, vk] } } := I2.kept (t' := s2.toks) fun b ob q => Heap.get?_push_of_some _ q
  cases r1
  obtain ⟨its, r, ht, hz⟩ := I4.list hx
  have hlen := r.length
  have hs : ({ s2 with heap := s2.heap.push { cls := .type "slice", data := .fields #[.none, .none, vk] } } : Shared).heap.IsSliceOf s2.heap.objs.size .none .none vk := Heap.IsSliceOf.new ..
  have hg : wpAny (model X.prog X.w) X.A (getItem (.ref a) (.ref s2.heap.objs.size)) (EP X pins σ Q) X.xe { s2 with heap := s2.heap.push { cls := .type "slice", data := .fields #[.none, .none, vk] } } := by
    refine wpAny_getItem_list_slice ht.isList hs .none .none pk (by simp) ?_ (by rw [List.size_toArray] <;> omega)
    rw [PySem.W.krv_pick]
    refine ⟨.ref _, _, I4.laid (t' := s2.toks) (o := .lst xs.reverse) (fun b ob q => Heap.get?_push_of_some _ q) (Nat.le_refl _) ?_, rfl, q _ (I4.hok.fresh (Nat.le_refl _))⟩
    exact ⟨by rw [List.length_reverse]; exact hz, _, 0, r.reverse, Heap.get?_push_size _ rfl⟩
  show wpAny (model X.prog X.w) X.A (subscriptTail e (.Slice none none (some st) p2) (.ref a) (.ref s2.heap.objs.size)) (EP X pins σ Q) X.xe _
  exact tail_any (ops := [.ref a, .ref s2.heap.objs.size]) ht.isList.typeIs slot_list_getitem.lookup hg (by with_unfolding_all rfl)
end GR

/-! t[::-1] of a tuple; data of a pair of tuples -/
namespace GT
open PySem PySem.Spec PyProof.Rows L2 HT
section
variable {prog : Program} {w : World} {A : Around} {E : Value → Shared → Prop} {s : Shared}
theorem adjust_back (n : Nat) : Builtin.Slice.sliceAdjust none none (-1) (n : Int) = ((n : Int) - 1, -1) := by
  have h1 : ((-1 : Int) < 0) := by decide
  unfold Builtin.Slice.sliceAdjust
  simp only [h1, if_true]
theorem places_back (n : Nat) : Builtin.Slice.slicePlaces ((n : Int) - 1) (-1) (-1) = n := by
  unfold Builtin.Slice.slicePlaces
  have h1 : ¬ ((-1 : Int) > 0) := by decide
  have h2 : (- -1 : Int) = 1 := by decide
  simp only [h1, if_false, h2, Int.ediv_one]
  split <;> omega
theorem applied_back {sl : Addr} {vk : Value} {n : Nat} {Q : Int × Int × Nat → Shared → Prop} (hs : s.heap.IsSliceOf sl .none .none vk) (pk : IsPart vk (some (-1)))
    (h : Q ((n : Int) - 1, -1, n) s) : wpAny (model prog w) A (Builtin.Slice.sliceApplied (.ref sl) (pure (n : Int))) Q E s := by
  obtain ⟨os, hos, hcs, hds⟩ := id hs
  unfold Builtin.Slice.sliceApplied Builtin.Slice.sliceFields
  refine wpAny_bind (wpAny_bind (wpAny_field hos hds (x := .none) rfl (wpAny_bind (wpAny_field hos hds (x := .none) rfl (wpAny_bind (wpAny_field hos hds (x := vk) rfl (wpAny_pure ?_)))))))
  refine wpAny_bind (slicePart_ pk ?_)
  show wpAny _ _ (if ((-1 : Int) == 0) = true then _ else _) _ _ s
  rw [if_neg (by decide)]
  refine wpAny_bind (slicePart_none (wpAny_bind (slicePart_none (wpAny_bind (wpAny_pure ?_)))))
  show wpAny _ _ (match Builtin.Slice.sliceAdjust none none (-1) (n : Int) with | (lo, hi) => pure (lo, (-1 : Int), Builtin.Slice.slicePlaces lo hi (-1))) _ _ s
  rw [adjust_back n]
  show wpAny _ _ (pure ((n : Int) - 1, (-1 : Int), Builtin.Slice.slicePlaces ((n : Int) - 1) (-1) (-1))) _ _ s
  rw [places_back]
  exact wpAny_pure h
theorem pick_back (xs : Array Value) : ((List.range xs.size).filterMap fun (m : Nat) => xs[(((xs.size : Int) - 1) + (m : Int) * (-1)).toNat]?).toArray = xs.toList.reverse.toArray := by
  have e : (fun (m : Nat) => xs[(((xs.size : Int) - 1) + (m : Int) * (-1)).toNat]?) = fun m => (fun k => xs[k]?) ((xs.size - 1) - m) := by
    funext m
    have : (((xs.size : Int) - 1) + (m : Int) * (-1)).toNat = xs.size - 1 - m := by omega
    rw [this]
  rw [e]
  have := PySem.W.krv_all xs
  have k := PySem.W.krv_range xs.size
  rw [← this, ← List.filterMap_reverse, ← k, List.filterMap_map]
  rfl
theorem getItem_tuple_back {t sl : Addr} {items : Array Value} {vk : Value} {Q : Value → Shared → Prop} (ht : IsTup s.heap t items) (hs : s.heap.IsSliceOf sl .none .none vk) (pk : IsPart vk (some (-1)))
    (h : Q (.ref s.heap.objs.size) { s with heap := s.heap.push { cls := .type "tuple", data := .seq items.toList.reverse.toArray } })
    (hsz : items.size ≤ sizeLine) : wpAny (model prog w) A (getItem (.ref t) (.ref sl)) Q E s := by
  have htake : sizeOk (.seq items.toList.reverse.toArray) := by
    show items.toList.reverse.toArray.size ≤ sizeLine
    rw [List.size_toArray, List.length_reverse, Array.length_toList]
    exact hsz
  obtain ⟨os, hos, hcs, hds⟩ := id hs
  have hTs : s.TypeIs (.ref sl) "slice" := ⟨os, hos, hcs⟩
  unfold getItem
  try with_reducible refine wpAny_holding ?_
  first | refine wpAny_bind (wpAny_pure ?_) | skip
  refine wpAny_bind (wpAny_sequenceKey ht.typeIs (by decide) ?_)
  refine wpAny_bind (wpAny_callSpecial?_slot (name := Str.ofString "__getitem__") ht.typeIs PyProof.Rows.slot_tuple_getitem
    (wpAny_call_entry PyProof.Rows.slot_tuple_getitem ht.typeIs entry_tuple_getitem ?_ (args_tuple_getitem _ _)))
  show wpAny _ _ (Builtin.Tuple.tupleItemsOf (.ref t) >>= _) _ _ s
  refine wpAny_bind (tupleItemsOf_ ht ?_)
  refine wpAny_bind (wpAny_typeOf hTs ?_)
  rw [if_pos (by decide)]
  refine wpAny_bind (applied_back hs pk ?_)
  have hno : ¬ (((((items.size : Int) - 1) == 0 && (-1 : Int) == 1) && items.size == items.size) = true) := by
    intro q
    rw [Bool.and_eq_true, Bool.and_eq_true] at q
    exact absurd q.1.2 (by decide)
  show wpAny _ _ (if ((((items.size : Int) - 1) == 0 && (-1 : Int) == 1) && items.size == items.size) = true then _ else _) _ _ s
  rw [if_neg hno, pick_back]
  first
    | exact wpAny_bind (m := Builtin.Tuple.tupleExact _) (wpAny_newObj_type (wpAny_pure ⟨_, rfl, wpAny_pure h⟩) htake)
    | exact wpAny_bind (m := Builtin.Tuple.tupleExact _) (wpAny_newObj_type (wpAny_bind (wpAny_pure (wpAny_pure ⟨_, rfl, wpAny_pure h⟩))) htake)
    | exact wpAny_bind (wpAny_bind (m := Builtin.Tuple.tupleExact _) (wpAny_newObj_type (wpAny_pure (wpAny_pure ⟨_, rfl, wpAny_pure h⟩)) htake))
    | exact wpAny_bind (wpAny_bind (m := Builtin.Tuple.tupleExact _) (wpAny_newObj_type (wpAny_pure ⟨_, rfl, wpAny_pure h⟩) htake))
end
def tBackT (K : PySem.W.Frag) (te : TE) (tk : TO) : TE := fun σ H Q => te σ H fun v H1 => tk σ H1 fun o H2 => o = some (-1) ∧ ∃ a xs, v = .ref a ∧ SqT K H2 a xs ∧ ∀ p, H2 p = none → Q (.ref p) (upd H2 p (.tup xs.reverse))
theorem pe_backT {X : Cx} {e st : Expr} {te : TE} {tk : TO} {p2 pos : Pos} (he : PE X e te) (hk : PO X (some st) tk) : PE X (.Subscript e (.Slice none none (some st) p2) pos) (tBackT X.K te tk) := by
  refine ⟨fun pins s σ H Q I h => ?_⟩
  refine Subscript_ (thn (he.run pins s σ H _ I h) fun v s1 ⟨x, H1, I1, r1, q1⟩ => ?_)
  refine wpAny_Slice ?_
  rw [evalPart_none]
  refine wpAny_pure ?_
  refine wpAny_pure ?_
  refine thn (hk.run pins s1 σ H1 _ I1 q1) fun vk s2 ⟨o, H2, I2, pk, q2⟩ => ?_
  obtain ⟨rfl, a, xs, rfl, hx, q⟩ := q2
  have I4 : Inv X pins σ H2 { s2 with heap := s2.heap.push { cls := .type "slice", data := .fields #[.none, .none, vk] } } := I2.kept (t' := s2.toks) fun b ob q => Heap.get?_push_of_some _ q
  cases r1
  obtain ⟨its, r, ht, hz⟩ := I4.tuple hx
  have hlen := r.length
  have hs : ({ s2 with heap := s2.heap.push { cls := .type "slice", data := .fields #[.none, .none, vk] } } : Shared).heap.IsSliceOf s2.heap.objs.size .none .none vk := Heap.IsSliceOf.new ..
  have hg : wpAny (model X.prog X.w) X.A (getItem (.ref a) (.ref s2.heap.objs.size)) (EP X pins σ Q) X.xe { s2 with heap := s2.heap.push { cls := .type "slice", data := .fields #[.none, .none, vk] } } := by
    refine getItem_tuple_back ht hs pk ?_ (by rw [List.size_toArray] <;> omega)
    refine ⟨.ref _, _, I4.laid (t' := s2.toks) (o := .tup xs.reverse) (fun b ob q => Heap.get?_push_of_some _ q) (Nat.le_refl _) ?_, rfl, q _ (I4.hok.fresh (Nat.le_refl _))⟩
    exact ⟨by rw [List.length_reverse]; exact hz, _, r.reverse, IsTup.new _ _⟩
  show wpAny (model X.prog X.w) X.A (subscriptTail e (.Slice none none (some st) p2) (.ref a) (.ref s2.heap.objs.size)) (EP X pins σ Q) X.xe _
  exact tail_any (ops := [.ref a, .ref s2.heap.objs.size]) ht.typeIs PyProof.Rows.slot_tuple_getitem.lookup hg (by with_unfolding_all rfl)
end GT

set_option pp.maxSteps 900
/-! k30: the law's own checks, values made -/
namespace M3X
open PySem PySem.Spec PyProof.Rows L2 KA KD KM PH PM PA PB PC RM RN RC RS QE QF QG K20 KP GU DV M3N M3W
abbrev sLr : Stmt := topS 29
abbrev sLs : Stmt := topS 30
abbrev sLc : Stmt := topS 31
abbrev sLo : Stmt := topS 32
theorem scLr : FnScope ["value"] ["value"] (defScope sLr) := ⟨rfl, rfl, rfl, by decide +kernel, rfl, by decide +kernel, by decide +kernel⟩
theorem scLs : FnScope ["value", "one"] ["value"] (defScope sLs) := ⟨rfl, rfl, rfl, by decide +kernel, rfl, by decide +kernel, by decide +kernel⟩
theorem scLc : FnScope ["cycles", "rest", "one", "x"] ["cycles", "rest"] (defScope sLc) := ⟨rfl, rfl, rfl, by decide +kernel, rfl, by decide +kernel, by decide +kernel⟩
theorem scLo : FnScope ["feed", "found", "at", "odd", "case"] ["feed", "found"] (defScope sLo) := ⟨rfl, rfl, rfl, by decide +kernel, rfl, by decide +kernel, by decide +kernel⟩
structure Vl (d : PyData) : Prop where
  la : d.canLay0 = true ∨ d = .dict []
  de : d.depth ≤ 6
  wd : Wd d
structure Tq (d : PyData) : Prop where
  tp : Tp d
  vl : Vl d
theorem tq_tup {ds : List PyData} (h : ∀ d ∈ ds, It d) (hl : ds.length ≤ 100) : Tq (.tuple ds) := ⟨tp_tup h hl, .inl (by simp only [PyData.canLay0]; exact (it_all h).2.2.2.2), (tp_tup h hl).de, show ds.length ≤ 2000 by omega⟩
theorem tq_lst {ds : List PyData} (h : ∀ d ∈ ds, It d) (hl : ds.length ≤ 100) : Tq (.list ds) := ⟨tp_lst h hl, .inl (by simp only [PyData.canLay0]; exact (it_all h).2.2.2.2), (tp_lst h hl).de, trivial⟩
theorem tq_one {ds : List PyData} (h : ∀ d ∈ ds, It d) (hl : ds.length ≤ 100) : Tq (.tuple [.tuple ds]) := ⟨tp_one h hl, .inl (by simp only [PyData.canLay0, PyData.canLayAll0, (it_all h).2.2.2.2, Bool.and_self]), (tp_one h hl).de, show 1 ≤ 2000 by decide⟩
def itB (d : PyData) : Bool := d.showable && d.leavesShort 13 && decide (d.depth ≤ 4) && decide (d.weight ≤ 1000) && d.canLay0
theorem it_of {d : PyData} (h : itB d = true) : It d := by
  simp only [itB, Bool.and_eq_true, decide_eq_true_eq] at h
  exact ⟨h.1.1.1.1, h.1.1.1.2, h.1.1.2, h.1.2, h.2⟩
theorem it_list {ds : List PyData} (h : ds.all itB = true) : ∀ d ∈ ds, It d := fun d hd => it_of (List.all_eq_true.mp h d hd)
theorem iteD {c : Bool} {A B : Prop} (h1 : c = true → A) (h2 : c = false → B) : if c = true then A else B := by
  cases c with
  | true => exact iteT (h1 rfl)
  | false => exact iteF (h2 rfl)
theorem slA {K : PySem.W.Frag} {f a : Addr} {xs : List V} {lo hi : Option Int} {H : Hp} {Q : VK} (ha : H a = some (.tup xs)) (naf : a ≠ f) (hf : FeedAt H f)
    (q : ∀ H' p, Same H H' → p ≠ f → H' p = some (.tup (cutV xs lo hi)) → Q (.ref p) H') : rSlA K (.ref a) lo hi H Q :=
  ⟨a, xs, rfl, SqT.of ha, fun h => q H a (Same.refl H) naf (by rw [GU.cut_whole h]; exact ha), fun _ p np => q _ p (same_new np) (hf.ne np) upd_same⟩
theorem ctA {K : PySem.W.Frag} {f a b : Addr} {xs ys : List V} {H : Hp} {Q : VK} (ha : H a = some (.tup xs)) (hb : H b = some (.tup ys)) (naf : a ≠ f) (nbf : b ≠ f) (hf : FeedAt H f) (hl : xs.length + ys.length ≤ 2000)
    (q : ∀ H' p, Same H H' → p ≠ f → H' p = some (.tup (xs ++ ys)) → Q (.ref p) H') : rCatA K (.ref a) (.ref b) H Q :=
  ⟨a, b, xs, ys, rfl, rfl, SqT.of ha, SqT.of hb, Nat.le_of_lt (small3000 (by omega)), fun e => by subst e; exact q H b (Same.refl H) nbf hb, fun _ e => by subst e; exact q H a (Same.refl H) naf (by rw [List.append_nil]; exact ha), fun _ _ p np => q _ p (same_new np) (hf.ne np) upd_same⟩
theorem filt_take {p : PyData → Bool} {ds : List PyData} {i : Nat} {d : PyData} (e : ds[i]? = some d) : (ds.take (i + 1)).filter p = (ds.take i).filter p ++ (if p d = true then [d] else []) := by
  rw [List.take_add_one, e, Option.toList_some, List.filter_append]
  congr 1
  rw [List.filter_cons, List.filter_nil]
theorem filt_all : ∀ ds : List PyData, (ds.filter fun d => !isRd d).isEmpty = ds.all isRd
  | [] => rfl
  | d :: ds => by
    rw [List.filter_cons, List.all_cons, ← filt_all ds]
    cases isRd d <;> rfl
theorem lay_filt : ∀ {ds : List PyData} {p : PyData → Bool}, PyData.canLayAll0 ds = true → PyData.canLayAll0 (ds.filter p) = true
  | [], _, _ => rfl
  | d :: ds, p, h => by
    have h2 : d.canLay0 = true ∧ PyData.canLayAll0 ds = true := by simpa only [PyData.canLayAll0, Bool.and_eq_true] using h
    rw [List.filter_cons]
    split
    · simp only [PyData.canLayAll0, h2.1, lay_filt h2.2, Bool.and_self]
    · exact lay_filt h2.2
theorem dep_filt : ∀ {ds : List PyData} {p : PyData → Bool}, PyData.depthAll (ds.filter p) ≤ PyData.depthAll ds
  | [], _ => Nat.le_refl _
  | d :: ds, p => by
    have h := dep_filt (ds := ds) (p := p)
    rw [List.filter_cons]
    split <;> simp only [PyData.depthAll] <;> omega
theorem ev_nilD (ds : List PyData) : PyData.eqv (.list ds) (.list (dInts [])) = ds.isEmpty := by
  cases ds with
  | nil => rfl
  | cons d ds => rfl
theorem shaped_filt {ds : List PyData} {p : PyData → Bool} (h1 : PyData.canLayAll0 ds = true) (h2 : PyData.depthAll ds ≤ 10) : SeqAt.shaped (.list (ds.filter p)) = true :=
  shaped_of (by simp only [PyData.canLay0]; exact lay_filt h1) (by have := dep_filt (ds := ds) (p := p); simp only [PyData.depth]; omega)
def in1 (ns : List Int) (a b : Int) : Bool := ns.any (fun x => decide (x ≤ a)) && ns.any (fun x => decide (b ≤ x))
def cycB (ns : List Int) (d : PyData) : Bool := isRg d && (match d with | .tuple [.int a, .int b] => in1 ns a b | _ => false)
theorem count_all (ns : List Int) : ∀ ds : List PyData, (ds.all isRg && inB (pairsOf ds) ns) = ds.all (cycB ns)
  | [] => rfl
  | d :: ds => by
    have ih := count_all ns ds
    rw [List.all_cons, List.all_cons, ← ih]
    cases hr : isRg d with
    | false => simp [cycB, hr]
    | true =>
      obtain ⟨a, b, rfl, _⟩ := rg_pair hr
      have e1 : cycB ns (.tuple [.int a, .int b]) = in1 ns a b := by unfold cycB; rw [hr]; rfl
      have e2 : inB (pairsOf (.tuple [.int a, .int b] :: ds)) ns = (in1 ns a b && inB (pairsOf ds) ns) := rfl
      rw [e1, e2, Bool.true_and]
      cases in1 ns a b <;> cases ds.all isRg <;> rfl
theorem in1_two {ns : List Int} {a b : Int} (h : in1 ns a b = true) (hab : a < b) : 2 ≤ ns.length := by
  unfold in1 at h
  rw [Bool.and_eq_true, List.any_eq_true, List.any_eq_true] at h
  obtain ⟨⟨x, hx, h1⟩, y, hy, h2⟩ := h
  have h1 := of_decide_eq_true h1
  have h2 := of_decide_eq_true h2
  match ns, hx, hy with
  | [], hx, _ => cases hx
  | [z], hx, hy =>
    have e1 := List.mem_singleton.mp hx
    have e2 := List.mem_singleton.mp hy
    omega
  | _ :: _ :: _, _, _ => simp
theorem lay_mem : ∀ {ds : List PyData} {d : PyData}, PyData.canLayAll0 ds = true → d ∈ ds → d.canLay0 = true
  | x :: ds, d, h, m => by
    have h2 : x.canLay0 = true ∧ PyData.canLayAll0 ds = true := by simpa only [PyData.canLayAll0, Bool.and_eq_true] using h
    rcases List.mem_cons.mp m with rfl | m
    · exact h2.1
    · exact lay_mem h2.2 m
theorem dep_mem : ∀ {ds : List PyData} {d : PyData}, d ∈ ds → d.depth ≤ PyData.depthAll ds
  | x :: ds, d, m => by
    simp only [PyData.depthAll]
    rcases List.mem_cons.mp m with rfl | m
    · omega
    · have := dep_mem m
      omega
theorem two_ints {ms : List Int} (h : (dInts ms).length = 2) : ∃ a b, ms = [a, b] := by
  match ms, h with
  | [a, b], _ => exact ⟨a, b, rfl⟩
theorem tq_none : Tq .none := ⟨⟨.inl rfl, rfl, rfl, by decide, by decide⟩, .inl rfl, by decide, trivial⟩
theorem tq_dict : Tq (.dict []) := ⟨⟨.inr rfl, rfl, rfl, by decide, by decide⟩, .inr rfl, by decide, trivial⟩
theorem tq_str : Tq (.str "") := ⟨⟨.inl rfl, by decide +kernel, by decide +kernel, by decide +kernel, by decide +kernel⟩, .inl (by decide +kernel), by decide +kernel, trivial⟩
theorem tq_seven : Tq (.int 7) := ⟨⟨.inl rfl, by decide +kernel, by decide +kernel, by decide +kernel, by decide +kernel⟩, .inl rfl, by decide +kernel, trivial⟩
theorem it_app {ds es : List PyData} (h : ∀ d ∈ ds, It d) (g : ∀ d ∈ es, It d) : ∀ d ∈ ds ++ es, It d := fun d m => (List.mem_append.mp m).elim (h d) (g d)
theorem it_take {ds : List PyData} {n : Nat} (h : ∀ d ∈ ds, It d) : ∀ d ∈ ds.take n, It d := fun d m => h d (List.mem_of_mem_take m)
theorem it_drop {ds : List PyData} {n : Nat} (h : ∀ d ∈ ds, It d) : ∀ d ∈ ds.drop n, It d := fun d m => h d (List.mem_of_mem_drop m)
abbrev ODD1 : List PyData := [.bool true, .none, .str "1", .int (10 ^ (9 : Int).toNat), .int (10 ^ (9 : Int).toNat + 1), .int (-(10 ^ (9 : Int).toNat) - 1), .tuple [.int 0, .int 3], .tuple [.int 3, .int 0], .tuple [.int 2, .int 2], .list [.int 0, .int 3], .tuple [.int 0, .int 1, .int 2]]
abbrev ODD2 : List PyData := [.tuple [.bool true, .int 3], .int 4, .tuple [], .tuple [.int 0, .bool true], .tuple [.int 0, .none], .tuple [.none, .int 3], .tuple [.int 0, .str "3"], .tuple [.int 0, .tuple [.int 1]], .tuple [.int 0, .list [.int 1]], .list [.list [.int 0], .int 3], .tuple [.int (-5), .int 2]]
section
variable {P : Program} {w : World} {K : PySem.W.Frag} {mg : Str → Option Value} {base : Heap}
theorem ok_lr {f : Addr} {fd : FuncData} {k : Nat} (F : Fun K "_law_is_reading" "_law_is_reading" sLr f fd) (ms : mg "isinstance" = none) (mi : mg "int" = none) (mb : mg "bool" = none) (ma : mg "abs" = none) : FnOk P w K mg base CX0 (k + 1) f fd ["value"] spRd := by
  refine F.ok scLr (fun vs H Q E h => ?_) (fun cdv A outer s H vs Q E hr h => ?_)
  · obtain ⟨v, g, d, rfl, hd, hq⟩ := h
    rfl
  · obtain ⟨v, g, d, rfl, hd, hq⟩ := h
    refine ⟨_, (pss_one (ps_ret (pe_and (pe_callB call_isi (by rfl) ms (by decide +kernel) (pa_cons (pv 0) (pa_cons (pe_bltn (v := .ty "int") (by rfl) mi (by decide +kernel) rfl) pa_nil))) (pe_and (pe_not (pe_callB call_isi (by rfl) ms (by decide +kernel) (pa_cons (pv 0) (pa_cons (pe_bltn (v := .ty "bool") (by rfl) mb (by decide +kernel) rfl) pa_nil)))) (pe_one (pe_cmpR op_le (pe_callB call_abs (by rfl) ma (by decide +kernel) (pa_cons (pv 0) pa_nil)) (pe_op op_pow pe_int pe_int) (nomark _))))))), ?_⟩
    refine ⟨v, rfl, v, .ty "int", _, .type "int", _, rfl, .ty "int", hd.ty, kit_i d, _, rfl, ?_⟩
    cases hi : isI d with
    | false =>
      rw [show isRd d = false by cases d <;> simp_all [isI, isRd]] at hq
      exact iteF hq
    | true =>
      refine iteT ⟨v, rfl, v, .ty "bool", _, .type "bool", _, rfl, .ty "bool", hd.ty, kit_b d, _, rfl, _, rfl, ?_⟩
      cases hb : isB d with
      | true =>
        rw [show isRd d = false by cases d <;> simp_all [isB, isRd]] at hq
        exact iteF hq
      | false =>
        obtain ⟨i, rfl⟩ : ∃ i, d = .int i := by
          cases d with
          | int i => exact ⟨i, rfl⟩
          | bool b => cases hb
          | _ => cases hi
        cases hd
        refine iteT ⟨.int i, rfl, _, rfl, 10, 9, rfl, rfl, ⟨by decide, by decide, by decide⟩, _, _, rfl, rfl, ?_⟩
        show Q (V.bl (decide _)) H
        rw [abs_i, show (10 : Int) ^ (9 : Int).toNat = 1000000000 by decide]
        exact hq
def spLs : Sp := fun vs H Q _ => ∃ (v : V) (g : Addr) (d : PyData), vs = [v] ∧ Dv g H v d ∧ Vl d ∧ ∀ H', Same H H' → Q (.bl (restB d)) H'
theorem ok_ls {f : Addr} {fd : FuncData} {fRD : Addr} {dRD : FuncData} {fTN : Addr} {dTN : FuncData} {fCT : Addr} {dCT : FuncData} {k : Nat} (F : Fun K "_law_is_rest" "_law_is_rest" sLs f fd) (GRD : FnOk P w K mg base CX0 (k + 1) fRD dRD ["value"] spRd) (gRD : mg "_law_is_reading" = some (.ref fRD)) (kRD : PySem.W.keepIn K (.ref fRD) = true) (bRD : Binds K dRD ["value"] []) (GTN : FnOk P w K mg base CX0 (k + 1) fTN dTN ["load"] (spTn K)) (gTN : mg "_law_turns" = some (.ref fTN)) (kTN : PySem.W.keepIn K (.ref fTN) = true) (bTN : Binds K dTN ["load"] []) (GCT : FnOk P w K mg base CX0 (k + 3) fCT dCT ["load"] (spCt K)) (gCT : mg "_law_count" = some (.ref fCT)) (kCT : PySem.W.keepIn K (.ref fCT) = true) (bCT : Binds K dCT ["load"] []) (ms : mg "isinstance" = none) (mt : mg "tuple" = none) (ml : mg "list" = none) : FnOk P w K mg base CX0 (k + 4) f fd ["value"] spLs := by
  refine F.ok scLs (fun vs H Q E h => ?_) (fun cdv A outer s H vs Q E hr h => ?_)
  · obtain ⟨v, g, d, rfl, hd, hv, hq⟩ := h
    rfl
  · obtain ⟨v, g, d, rfl, hd, hv, hq⟩ := h
    refine ⟨_, (pss_cons (ps_if (PW.pt (pw_or (pt_not (pt_val (pe_callB call_isi (by rfl) ms (by decide +kernel) (pa_cons (pv 0) (pa_cons (pe_bltn (v := .ty "tuple") (by rfl) mt (by decide +kernel) rfl) pa_nil))))) (pw_or1 (pt_cmpR (op_neD hr.units) (pe_lc (own := [("one", 1)]) (g := gName 1)   rfl scLs.nd (pi_tup (pv 0)) (blkOk_by (own := [("one", 1)]) (N := ["value", "one"]) (sc := defScope sLs) (by decide +kernel)) (fun _ _ _ _ _ => (pg_name (i := 1) scLs.nd rfl (Or.inl rfl) (Or.inr rfl))) (fun _ _ _ _ _ => pts_one (pt_not (pt_val (pe_call (GRD.mono (show k + 1 ≤ k + 3 by omega)) hr (by rfl) gRD kRD bRD .nil pass0 (pa_cons (pv 1) pa_nil))))) (fun _ _ _ _ _ => (pv 1))) (pe_lst pa_nil) (nomark _))))) (pss_one (ps_ret pe_bl)) pss_nil)
      (pss_one (ps_ret (pe_and (pe_cmpR (op_eqD hr.units) (pe_call (GTN.mono (show k + 1 ≤ k + 3 by omega)) hr (by rfl) gTN kTN bTN .nil pass0 (pa_cons (pv 0) pa_nil)) (pe_callTy call_list_of (by rfl) ml (by decide +kernel) (pa_cons (pv 0) pa_nil)) (nomark _)) (pe_one (pe_cmpR (op_eqD hr.units) (pe_ix ix_tup (pe_call (GCT.mono (show k + 3 ≤ k + 3 by omega)) hr (by rfl) gCT kCT bCT .nil pass0 (pa_cons (pv 0) pa_nil)) pe_int (fun _ _ => rfl)) (pe_callTy call_list_of (by rfl) ml (by decide +kernel) (pa_cons (pv 0) pa_nil)) (nomark _))))))), ?_⟩
    refine ⟨v, rfl, v, .ty "tuple", _, .type "tuple", _, rfl, .ty "tuple", hd.ty, kit_t d, _, rfl, ?_⟩
    cases ht : isT d with
    | false =>
      have hq := hq _ (Same.refl H)
      rw [show restB d = false by cases d <;> simp_all [restB, isT]] at hq
      exact iteT (iteT hq)
    | true =>
      obtain ⟨ds, rfl⟩ := isT_tup ht
      have hlay : PyData.canLayAll0 ds = true := by
        rcases hv.la with z | z
        · simpa only [PyData.canLay0] using z
        · cases z
      have hdep : PyData.depthAll ds ≤ 10 := by have := hv.de; simp only [PyData.depth] at this; omega
      cases hd with
      | @tup a xs _ hn e da =>
        have hl : xs.length ≤ 2000 := by rw [da.length]; exact hv.wd
        refine iteF ⟨.ref a, rfl, a, rfl, ⟨xs, SqT.of e⟩, fun D nD => ?_⟩
        refine lc_it (walk_tup (xs := xs)) (fun i Hz => Same H Hz ∧ ∃ ys, Hz D = some (.lst ys) ∧ ys.length ≤ i ∧ DvAll g H ys ((ds.take i).filter fun d => !isRd d)) ⟨same_new nD, [], upd_same, Nat.le_refl _, .nil⟩ (fun i Hz _ z => SqT.of (z.1 _ _ e)) ?_ ?_
        · rintro i x Hz H2 hi ⟨sz, ys, hD, hyl, hy⟩ ⟨rfl, hx⟩
          obtain ⟨d2, e2, dv⟩ := da.at hx
          refine ⟨rfl, x, rfl, x, g, d2, rfl, dv.same sz, _, rfl, ?_⟩
          cases hr2 : isRd d2 with
          | true => exact iteF ⟨sz, ys, hD, by omega, by rw [filt_take e2, hr2]; simpa using hy⟩
          | false =>
            refine iteT ⟨x, rfl, ys, hD, small3000 (by omega), fun b o eb => ?_, ys ++ [x], upd_same, by simp; omega, by rw [filt_take e2, hr2]; exact hy.app (.cons dv .nil)⟩
            rw [upd_ne (ne_of_none eb nD)]
            exact sz b o eb
        · rintro Hz ⟨sz, ys, hD, hyl, hy⟩
          rw [da.length, List.take_length] at hy
          refine ⟨Nat.zero_le _, fun e1 ne1 => ?_⟩
          have se := same_new ne1 (o := .lst [])
          refine ⟨.list (ds.filter fun d => !isRd d), .list (dInts []), .lst (SqL.of (se _ _ hD)) (DvAll.dp _ _ ((hy.same sz).same se) (lay_filt hlay)), .lst (SqL.of upd_same) (dp_ints []), shaped_filt hlay hdep, shaped_lst [], _, rfl, ?_⟩
          rw [ev_nilD, filt_all]
          have sH := sz.trans se
          generalize upd Hz e1 (.lst []) = H3 at sH ⊢
          cases hb : ds.all isRd with
          | false =>
            have hq := hq _ sH
            rw [show restB (.tuple ds) = false by show (_ && _) = _; rw [hb]; rfl] at hq
            exact iteT hq
          | true =>
            obtain ⟨ns, rfl⟩ := rd_all hb
            have ex := dv_ints_of da
            subst ex
            rw [List.length_map] at hl
            refine iteF ⟨.ref a, rfl, a, ns, rfl, .inr (SqT.of (sH _ _ e)), by omega, fun H4 p s4 np hp => ⟨.ref a, rfl, a, _, rfl, .inr (SqT.of (s4 _ _ (sH _ _ e))), fun l nl => ?_⟩⟩
            have sl := same_new nl (o := .lst (ns.map V.int))
            refine ⟨.list (dInts (tp ns)), .list (dInts ns), .lst (SqL.of (sl _ _ hp)) (dp_ints _), .lst (SqL.of upd_same) (dp_ints _), shaped_lst _, shaped_lst _, _, rfl, ?_⟩
            rw [ev_lst]
            have s5 := (sH.trans s4).trans sl
            generalize upd H4 l (.lst (ns.map V.int)) = H5 at s5 ⊢
            have er : restB (.tuple (dInts ns)) = (decide (tp ns = ns) && (plc ns).isEmpty) := by
              show (_ && _) = _
              rw [hb, intsOf_ints, Bool.true_and]
              rfl
            rw [er] at hq
            by_cases htp : tp ns = ns
            · rw [decide_eq_true htp] at hq ⊢
              refine iteT ⟨.ref a, rfl, a, ns, rfl, .inr (SqT.of (s5 _ _ e)), hl, fun H6 p6 c r xs6 cs rs s6 hp6 hc pa hr' nr nc l1 l2 m1 m2 hdec => ?_⟩
              refine ⟨p6, _, _, .ref r, rfl, rfl, SqT.of hp6, rfl, .ref a, rfl, a, _, rfl, .inr (SqT.of (s6 _ _ (s5 _ _ e))), fun l6 nl6 => ?_⟩
              have sl6 := same_new nl6 (o := .lst (ns.map V.int))
              refine ⟨.list (dInts rs), .list (dInts ns), .lst (SqL.of (sl6 _ _ hr')) (dp_ints _), .lst (SqL.of upd_same) (dp_ints _), shaped_lst _, shaped_lst _, ?_⟩
              rw [ev_lst]
              rw [htp] at hdec
              rw [hdec]
              exact hq _ ((s5.trans s6).trans sl6)
            · rw [decide_eq_false htp] at hq ⊢
              exact iteF (hq _ s5)
def spLc : Sp := fun vs H Q _ => ∃ (v1 v2 : V) (g : Addr) (d1 d2 : PyData), vs = [v1, v2] ∧ Dv g H v1 d1 ∧ Dv g H v2 d2 ∧ Vl d1 ∧ Vl d2 ∧ ∀ H', Same H H' → Q (.bl (countB d1 d2)) H'
theorem ok_lc {f : Addr} {fd : FuncData} {fLS : Addr} {dLS : FuncData} {fRD : Addr} {dRD : FuncData} {k : Nat} (F : Fun K "_law_is_count" "_law_is_count" sLc f fd) (GLS : FnOk P w K mg base CX0 (k + 4) fLS dLS ["value"] spLs) (gLS : mg "_law_is_rest" = some (.ref fLS)) (kLS : PySem.W.keepIn K (.ref fLS) = true) (bLS : Binds K dLS ["value"] []) (GRD : FnOk P w K mg base CX0 (k + 1) fRD dRD ["value"] spRd) (gRD : mg "_law_is_reading" = some (.ref fRD)) (kRD : PySem.W.keepIn K (.ref fRD) = true) (bRD : Binds K dRD ["value"] []) (ms : mg "isinstance" = none) (mt : mg "tuple" = none) (mlen : mg "len" = none) (mmin : mg "min" = none) (mmax : mg "max" = none) : FnOk P w K mg base CX0 (k + 5) f fd ["cycles", "rest"] spLc := by
  refine F.ok scLc (fun vs H Q E h => ?_) (fun cdv A outer s H vs Q E hr h => ?_)
  · obtain ⟨v1, v2, g, d1, d2, rfl, hd1, hd2, hv1, hv2, hq⟩ := h
    rfl
  · obtain ⟨v1, v2, g, d1, d2, rfl, hd1, hd2, hv1, hv2, hq⟩ := h
    refine ⟨_, (pss_cons (ps_if (PW.pt (pw_or (pt_not (pt_val (pe_call (GLS.mono (show k + 4 ≤ k + 4 by omega)) hr (by rfl) gLS kLS bLS .nil pass0 (pa_cons (pv 1) pa_nil)))) (pw_or1 (pt_not (pt_val (pe_callB call_isi (by rfl) ms (by decide +kernel) (pa_cons (pv 0) (pa_cons (pe_bltn (v := .ty "tuple") (by rfl) mt (by decide +kernel) rfl) pa_nil)))))))) (pss_one (ps_ret pe_bl)) pss_nil)
      (pss_cons (ps_for PassesOwn.never rfl (pi_tup (pv 0)) (pg_name (i := 2) scLc.nd rfl (.inl rfl))
      (pss_cons (ps_if (PW.pt (pw_or (pt_not (pt_val (pe_callB call_isi (by rfl) ms (by decide +kernel) (pa_cons (pv 2) (pa_cons (pe_bltn (v := .ty "tuple") (by rfl) mt (by decide +kernel) rfl) pa_nil))))) (pw_or1 (pt_cmpR op_ne (pe_callB call_len_seq (by rfl) mlen PySem.boot_len (pa_cons (pv 2) pa_nil)) pe_int (nomark _))))) (pss_one (ps_ret pe_bl)) pss_nil)
      (pss_cons (ps_if (pt_cmpR (op_neD hr.units) (pe_lc (own := [("x", 3)]) (g := gName 3)   rfl scLc.nd (pi_tup (pv 2)) (blkOk_by (own := [("x", 3)]) (N := ["cycles", "rest", "one", "x"]) (sc := defScope sLc) (by decide +kernel)) (fun _ _ _ _ _ => (pg_name (i := 3) scLc.nd rfl (Or.inl rfl) (Or.inr rfl))) (fun _ _ _ _ _ => pts_one (pt_not (pt_val (pe_call (GRD.mono (show k + 1 ≤ k + 4 by omega)) hr (by rfl) gRD kRD bRD .nil pass0 (pa_cons (pv 3) pa_nil))))) (fun _ _ _ _ _ => (pv 3))) (pe_lst pa_nil) (nomark _)) (pss_one (ps_ret pe_bl)) pss_nil)
      (pss_one (ps_if (PW.pt (pw_or (pt_cmpR op_ge (pe_ix ix_tup (pv 2) pe_int (fun _ _ => rfl)) (pe_ix ix_tup (pv 2) pe_int (fun _ _ => rfl)) (nomark _)) (pw_or (pt_cmpR op_lt (pe_callB call_len_seq (by rfl) mlen PySem.boot_len (pa_cons (pv 1) pa_nil)) pe_int (nomark _)) (pw_or (pt_not (pt_cmpR op_le (pe_callB (GU.cr_minS rfl) (by rfl) mmin (by decide +kernel) (pa_cons (pv 1) pa_nil)) (pe_ix ix_tup (pv 2) pe_int (fun _ _ => rfl)) (nomark _))) (pw_or1 (pt_not (pt_cmpR op_le (pe_ix ix_tup (pv 2) pe_int (fun _ _ => rfl)) (pe_callB (GU.cr_maxS rfl) (by rfl) mmax (by decide +kernel) (pa_cons (pv 1) pa_nil)) (nomark _)))))))) (pss_one (ps_ret pe_bl)) pss_nil)))))
      (pss_one (ps_ret pe_bl)))), ?_⟩
    refine ⟨v2, rfl, v2, g, d2, rfl, hd2, hv2, fun H1 s1 => ⟨_, rfl, ?_⟩⟩
    cases hr2 : restB d2 with
    | false =>
      have hq := hq _ s1
      rw [show countB d1 d2 = false by cases d1 <;> simp_all [countB]] at hq
      exact iteT (iteT hq)
    | true =>
      obtain ⟨es, rfl⟩ : ∃ es, d2 = .tuple es := by
        cases d2 with
        | tuple es => exact ⟨es, rfl⟩
        | _ => exact absurd hr2 (by simp [restB])
      have hes : es.all isRd = true := by
        have : (es.all isRd && leftB (intsOf es)) = true := hr2
        exact (Bool.and_eq_true _ _ ▸ this).1
      obtain ⟨ns, rfl⟩ := rd_all hes
      cases hd2 with
      | @tup b ys _ hn2 eb db =>
      have ey := dv_ints_of db
      subst ey
      have hlb : ns.length ≤ 2000 := by have := hv2.wd; simpa [Wd, dInts] using this
      refine iteF ⟨v1, rfl, v1, .ty "tuple", _, .type "tuple", _, rfl, .ty "tuple", (hd1.same s1).ty, kit_t d1, _, rfl, ?_⟩
      cases ht : isT d1 with
      | false =>
        have hq := hq _ s1
        rw [show countB d1 (.tuple (dInts ns)) = false by cases d1 <;> simp_all [countB, isT]] at hq
        exact iteT hq
      | true =>
        obtain ⟨ds, rfl⟩ := isT_tup ht
        have hlay : PyData.canLayAll0 ds = true := by
          rcases hv1.la with z | z
          · simpa only [PyData.canLay0] using z
          · cases z
        have hdep : PyData.depthAll ds ≤ 10 := by have := hv1.de; simp only [PyData.depth] at this; omega
        have ecount : countB (.tuple ds) (.tuple (dInts ns)) = ds.all (cycB ns) := by
          show (ds.all isRg && _ && inB _ (intsOf (dInts ns))) = _
          rw [hr2, Bool.and_true, intsOf_ints, count_all]
        rw [ecount] at hq
        cases hd1 with
        | @tup a xs _ hn e da =>
        refine iteF ⟨.ref a, rfl, a, rfl, ⟨xs, SqT.of (s1 _ _ e)⟩, for_it (walk_tup (xs := xs)) (fun i σ Hz => Same H Hz ∧ (ds.take i).all (cycB ns) = true ∧ ∃ r2 r3 : Option V, σ = [some (.ref a), some (.ref b), r2, r3]) ⟨s1, rfl, none, none, rfl⟩ (fun i σ Hz _ z => SqT.of (z.1 _ _ e)) ?_ ?_⟩
        · rintro i x σ Hz H2 hi ⟨sz, hall, r2, r3, rfl⟩ ⟨rfl, hx⟩
          obtain ⟨d3, e3, dv⟩ := da.at hx
          have bad : cycB ns d3 = false → ∀ H', Same H H' → Q (.bl false) H' := fun z H' s' => by
            have hq := hq _ s'
            rw [show ds.all (cycB ns) = false from List.all_eq_false.mpr ⟨d3, List.mem_of_getElem? e3, by rw [z]; decide⟩] at hq
            exact hq
          refine ⟨x, rfl, x, .ty "tuple", _, .type "tuple", _, rfl, .ty "tuple", (dv.same sz).ty, kit_t d3, _, rfl, ?_⟩
          cases ht3 : isT d3 with
          | false => exact iteT (iteT (bad (by cases d3 <;> simp_all [cycB, isRg, isT]) _ sz))
          | true =>
            obtain ⟨es3, rfl⟩ := isT_tup ht3
            have lay3 : PyData.canLayAll0 es3 = true := by
              have := lay_mem hlay (List.mem_of_getElem? e3)
              simpa only [PyData.canLay0] using this
            have dep3 : PyData.depthAll es3 ≤ 10 := by
              have := dep_mem (List.mem_of_getElem? e3)
              simp only [PyData.depth] at this
              omega
            cases dv with
            | @tup p3 xs3 _ hn3 e33 da3 =>
            refine iteF ⟨.ref p3, rfl, _, _, rfl, .inr (SqT.of (sz _ _ e33)), rfl, _, rfl, ?_⟩
            by_cases hl3 : es3.length = 2
            · have hl2 : xs3.length = 2 := by rw [da3.length]; exact hl3
              rw [show decide (V.int (xs3.length : Int) = V.int 2) = true from decide_eq_true (by rw [hl2]; rfl)]
              refine iteF ⟨.ref p3, rfl, p3, rfl, ⟨xs3, SqT.of (sz _ _ e33)⟩, fun D nD => ?_⟩
              refine lc_it (walk_tup (xs := xs3)) (fun i Hy => Same H2 Hy ∧ ∃ ys, Hy D = some (.lst ys) ∧ ys.length ≤ i ∧ DvAll g H ys ((es3.take i).filter fun d => !isRd d)) ⟨same_new nD, [], upd_same, Nat.le_refl _, .nil⟩ (fun i Hy _ z => SqT.of (z.1 _ _ (sz _ _ e33))) ?_ ?_
              · rintro i x Hy H2 hi ⟨sy, ys, hD, hyl, hy⟩ ⟨rfl, hx⟩
                obtain ⟨d4, e4, dv4⟩ := da3.at hx
                refine ⟨rfl, x, rfl, x, g, d4, rfl, (dv4.same sz).same sy, _, rfl, ?_⟩
                cases hr4 : isRd d4 with
                | true => exact iteF ⟨sy, ys, hD, by omega, by rw [filt_take e4, hr4]; simpa using hy⟩
                | false =>
                  refine iteT ⟨x, rfl, ys, hD, small3000 (by omega), fun b o eb => ?_, ys ++ [x], upd_same, by simp; omega, by rw [filt_take e4, hr4]; exact hy.app (.cons dv4 .nil)⟩
                  rw [upd_ne (ne_of_none eb nD)]
                  exact sy b o eb
              · rintro Hy ⟨sy, ys, hD, hyl, hy⟩
                rw [da3.length, List.take_length] at hy
                refine ⟨Nat.zero_le _, fun e1 ne1 => ?_⟩
                have se := same_new ne1 (o := .lst [])
                refine ⟨.list (es3.filter fun d => !isRd d), .list (dInts []), .lst (SqL.of (se _ _ hD)) (DvAll.dp _ _ (((hy.same sz).same sy).same se) (lay_filt lay3)), .lst (SqL.of upd_same) (dp_ints []), shaped_filt lay3 dep3, shaped_lst [], _, rfl, ?_⟩
                rw [ev_nilD, filt_all]
                have sH := (sz.trans sy).trans se
                generalize upd Hy e1 (.lst []) = H3 at sH ⊢
                cases hb : es3.all isRd with
                | false =>
                  refine iteT (bad ?_ _ sH)
                  have : isRg (.tuple es3) = false := by
                    cases hz : isRg (.tuple es3) with
                    | false => rfl
                    | true =>
                      obtain ⟨u, v, ez, _⟩ := rg_pair hz
                      injection ez with ez
                      subst ez
                      have : (isRd (.int u) && isRd (.int v) && decide (u < v)) = true := hz
                      simp only [Bool.and_eq_true] at this
                      simp [List.all_cons, this.1.1, this.1.2] at hb
                  unfold cycB
                  rw [this]
                  rfl
                | true =>
                  obtain ⟨ms, rfl⟩ := rd_all hb
                  obtain ⟨a0, b0, rfl⟩ := two_ints hl3
                  have ex3 := dv_ints_of da3
                  subst ex3
                  have ep := sH _ _ e33
                  have ebb := sH _ _ eb
                  have erg : isRg (.tuple (dInts [a0, b0])) = decide (a0 < b0) := by
                    show (isRd (.int a0) && isRd (.int b0) && decide (a0 < b0)) = _
                    have : (isRd (.int a0) && (isRd (.int b0) && true)) = true := hb
                    simp only [Bool.and_eq_true, Bool.and_true] at this
                    rw [this.1, this.2]
                    rfl
                  have ecy : cycB ns (.tuple (dInts [a0, b0])) = (decide (a0 < b0) && in1 ns a0 b0) := by
                    show (isRg _ && in1 ns a0 b0) = _
                    rw [erg]
                  refine iteF ⟨.ref p3, rfl, p3, _, 0, .int a0, rfl, rfl, SqT.of ep, rfl, .ref p3, rfl, p3, _, 1, .int b0, rfl, rfl, SqT.of ep, rfl, a0, b0, rfl, rfl, _, rfl, ?_⟩
                  by_cases g1 : a0 ≥ b0
                  · rw [decide_eq_true g1]
                    exact iteT (iteT (bad (by rw [ecy, decide_eq_false (by omega)]; rfl) _ sH))
                  rw [decide_eq_false g1]
                  rw [decide_eq_true (show a0 < b0 by omega), Bool.true_and] at ecy
                  refine iteF ⟨.ref b, rfl, b, _, rfl, .inr (SqT.of ebb), _, 2, rfl, rfl, _, rfl, ?_⟩
                  by_cases g2 : ns.length < 2
                  · rw [decide_eq_true (show (((ns.map V.int).length : Nat) : Int) < 2 by rw [List.length_map]; omega)]
                    refine iteT (iteT (bad ?_ _ sH))
                    rw [ecy]
                    cases hz : in1 ns a0 b0 with
                    | false => rfl
                    | true => exact absurd (in1_two hz (by omega)) (by omega)
                  rw [decide_eq_false (show ¬ (((ns.map V.int).length : Nat) : Int) < 2 by rw [List.length_map]; omega)]
                  refine iteF ⟨.ref b, rfl, b, ns, rfl, .inr (SqT.of ebb), by omega, fun mn m1 m2 => ⟨.ref p3, rfl, p3, _, 0, .int a0, rfl, rfl, SqT.of ep, rfl, mn, a0, rfl, rfl, _, rfl, ?_⟩⟩
                  by_cases g3 : mn ≤ a0
                  · rw [decide_eq_true g3]
                    refine iteF ⟨.ref p3, rfl, p3, _, 1, .int b0, rfl, rfl, SqT.of ep, rfl, .ref b, rfl, b, ns, rfl, .inr (SqT.of ebb), by omega, fun mx m3 m4 => ⟨b0, mx, rfl, rfl, _, rfl, ?_⟩⟩
                    by_cases g4 : b0 ≤ mx
                    · rw [decide_eq_true g4]
                      refine iteF ⟨sH, ?_, _, _, rfl⟩
                      rw [List.take_add_one, e3, Option.toList_some, List.all_append, hall, List.all_cons, List.all_nil, ecy]
                      unfold in1
                      rw [any_min m1 m2, any_max m3 m4, decide_eq_true g3, decide_eq_true g4]
                      rfl
                    · rw [decide_eq_false g4]
                      refine iteT (bad ?_ _ sH)
                      rw [ecy]
                      unfold in1
                      rw [any_max m3 m4, decide_eq_false g4, Bool.and_false]
                  · rw [decide_eq_false g3]
                    refine iteT (iteT (bad ?_ _ sH))
                    rw [ecy]
                    unfold in1
                    rw [any_min m1 m2, decide_eq_false g3]
                    rfl
            · rw [show decide (V.int (xs3.length : Int) = V.int 2) = false from decide_eq_false fun z => hl3 (by have := V.int.inj z; rw [← da3.length]; omega)]
              refine iteT (bad ?_ _ sz)
              unfold cycB
              rw [show isRg (.tuple es3) = false by unfold isRg; split <;> simp_all]
              rfl
        · rintro σ Hz ⟨sz, hall, r2, r3, rfl⟩
          rw [da.length, List.take_length] at hall
          have hq := hq _ sz
          rw [hall] at hq
          exact hq
def spLo : Sp := fun vs H Q _ => ∃ (f a : Addr) (xs : List V) (ds : List PyData), vs = [.ref f, .ref a] ∧ FeedAt H f ∧ H a = some (.tup xs) ∧ a ≠ f ∧ DvAll f H xs ds ∧ (∀ d ∈ ds, It d) ∧ ds.length ≤ 20 ∧
  ∀ H' v d, Ch f H H' → FeedAt H' f → Dv f H' v d → Tq d → Q v H'
theorem ok_lo {f : Addr} {fd : FuncData} {fTA : Addr} {dTA : FuncData} {fPI : Addr} {dPI : FuncData} {k : Nat} (F : Fun K "_law_other" "_law_other" sLo f fd) (GTA : FnOk P w K mg base CX0 (k + 1) fTA dTA ["feed", "size"] spTake) (gTA : mg "_law_take" = some (.ref fTA)) (kTA : PySem.W.keepIn K (.ref fTA) = true) (bTA : Binds K dTA ["feed", "size"] []) (GPI : FnOk P w K mg base CX0 (k + 2) fPI dPI ["feed", "options"] (spPick K)) (gPI : mg "_law_pick" = some (.ref fPI)) (kPI : PySem.W.keepIn K (.ref fPI) = true) (bPI : Binds K dPI ["feed", "options"] []) (ml : mg "list" = none) (mlen : mg "len" = none) : FnOk P w K mg base CX0 (k + 3) f fd ["feed", "found"] spLo := by
  refine F.ok scLo (fun vs H Q E h => ?_) (fun cdv A outer s H vs Q E hr h => ?_)
  · obtain ⟨f, a, xs, ds, rfl, hf, ha, naf, hxs, hit, hlen, hq⟩ := h
    rfl
  · obtain ⟨f, a, xs, ds, rfl, hf, ha, naf, hxs, hit, hlen, hq⟩ := h
    refine ⟨_, (pss_cons (ps_set (i := 2) scLo.nd rfl (.inl rfl) (pe_call (GTA.mono (show k + 1 ≤ k + 2 by omega)) hr (by rfl) gTA kTA bTA .nil pass0 (pa_cons (pv 0) (pa_cons (pe_op op_add (pe_callB call_len_seq (by rfl) mlen PySem.boot_len (pa_cons (pv 1) pa_nil)) pe_int) pa_nil))))
      (pss_cons (ps_set (i := 3) scLo.nd rfl (.inl rfl) (pe_lstD (f := f) (pa_consD (pe_blD pe_bl) (pa_consD (pe_nonD pe_non) (pa_consD (pe_strD pe_str) (pa_consD (pe_D (d := .int (10 ^ (9 : Int).toNat)) (pe_op op_pow pe_int pe_int) fun σ H Q q => ⟨10, 9, rfl, rfl, ⟨by decide, by decide, by decide⟩, q.2 _ _ (Same.refl H) (.int (10 ^ (9 : Int).toNat))⟩) (pa_consD (pe_D (d := .int (10 ^ (9 : Int).toNat + 1)) (pe_op op_add (pe_op op_pow pe_int pe_int) pe_int) fun σ H Q q => ⟨10, 9, rfl, rfl, ⟨by decide, by decide, by decide⟩, _, 1, rfl, rfl, q.2 _ _ (Same.refl H) (.int (10 ^ (9 : Int).toNat + 1))⟩) (pa_consD (pe_D (d := .int (-(10 ^ (9 : Int).toNat) - 1)) (pe_op op_sub (pe_un un_neg (pe_op op_pow pe_int pe_int)) pe_int) fun σ H Q q => ⟨10, 9, rfl, rfl, ⟨by decide, by decide, by decide⟩, _, rfl, _, 1, rfl, rfl, q.2 _ _ (Same.refl H) (.int (-(10 ^ (9 : Int).toNat) - 1))⟩) (pa_consD (pe_tupD (pa_consD (pe_intD pe_int) (pa_consD (pe_intD pe_int) pa_nilD))) (pa_consD (pe_tupD (pa_consD (pe_intD pe_int) (pa_consD (pe_intD pe_int) pa_nilD))) (pa_consD (pe_tupD (pa_consD (pe_intD pe_int) (pa_consD (pe_intD pe_int) pa_nilD))) (pa_consD (pe_lstD (f := f) (pa_consD (pe_intD pe_int) (pa_consD (pe_intD pe_int) pa_nilD))) (pa_consD (pe_tupD (pa_consD (pe_intD pe_int) (pa_consD (pe_intD pe_int) (pa_consD (pe_intD pe_int) pa_nilD)))) pa_nilD)))))))))))))
      (pss_cons (ps_set (i := 3) scLo.nd rfl (.inl rfl) (pe_op op_cat (pv 3) (pe_lstD (f := f) (pa_consD (pe_tupD (pa_consD (pe_blD pe_bl) (pa_consD (pe_intD pe_int) pa_nilD))) (pa_consD (pe_intD pe_int) (pa_consD (pe_tupD pa_nilD) (pa_consD (pe_tupD (pa_consD (pe_intD pe_int) (pa_consD (pe_blD pe_bl) pa_nilD))) (pa_consD (pe_tupD (pa_consD (pe_intD pe_int) (pa_consD (pe_nonD pe_non) pa_nilD))) (pa_consD (pe_tupD (pa_consD (pe_nonD pe_non) (pa_consD (pe_intD pe_int) pa_nilD))) (pa_consD (pe_tupD (pa_consD (pe_intD pe_int) (pa_consD (pe_strD pe_str) pa_nilD))) (pa_consD (pe_tupD (pa_consD (pe_intD pe_int) (pa_consD (pe_tupD (pa_consD (pe_intD pe_int) pa_nilD)) pa_nilD))) (pa_consD (pe_tupD (pa_consD (pe_intD pe_int) (pa_consD (pe_lstD (f := f) (pa_consD (pe_intD pe_int) pa_nilD)) pa_nilD))) (pa_consD (pe_lstD (f := f) (pa_consD (pe_lstD (f := f) (pa_consD (pe_intD pe_int) pa_nilD)) (pa_consD (pe_intD pe_int) pa_nilD))) (pa_consD (pe_tupD (pa_consD (pe_D (d := .int (-5)) (pe_un un_neg pe_int) fun σ H Q q => ⟨5, rfl, q.2 _ _ (Same.refl H) (.int (-5))⟩) (pa_consD (pe_intD pe_int) pa_nilD))) pa_nilD))))))))))))))
      (pss_cons (ps_set (i := 4) scLo.nd rfl (.inl rfl) (pe_call (GTA.mono (show k + 1 ≤ k + 2 by omega)) hr (by rfl) gTA kTA bTA .nil pass0 (pa_cons (pv 0) (pa_cons pe_int pa_nil))))
      (pss_cons (ps_if (pt_cmpR op_eq (pv 4) pe_int (nomark _)) (pss_one (ps_ret (pe_op op_catA (pe_slice sl_tupA (pv 1) po_none (po_some (pv 2))) (pe_slice sl_tupA (pv 1) (po_some (pe_op op_add (pv 2) pe_int)) po_none)))) pss_nil)
      (pss_cons (ps_if (pt_cmpR op_in_seq (pv 4) (pe_tup (pa_cons pe_int (pa_cons pe_int pa_nil))) (by rfl)) (pss_cons (ps_set (i := 3) scLo.nd rfl (.inl rfl) (pe_op op_cat (pv 3) (pe_lst (pa_cons (pe_call (GTA.mono (show k + 1 ≤ k + 2 by omega)) hr (by rfl) gTA kTA bTA .nil pass0 (pa_cons (pv 0) (pa_cons pe_int pa_nil))) (pa_cons (pe_tup (pa_cons pe_int (pa_cons pe_int pa_nil))) (pa_cons (pe_tup (pa_cons pe_int (pa_cons pe_int pa_nil))) pa_nil))))))
      (pss_one (ps_ret (pe_op op_catA (pe_op op_catA (pe_slice sl_tupA (pv 1) po_none (po_some (pv 2))) (pe_tup (pa_cons (pe_call (GPI.mono (show k + 2 ≤ k + 2 by omega)) hr (by rfl) gPI kPI bPI .nil pass0 (pa_cons (pv 0) (pa_cons (pv 3) pa_nil))) pa_nil))) (pe_slice sl_tupA (pv 1) (po_some (pv 2)) po_none))))) pss_nil)
      (pss_cons (ps_if (pt_cmpR op_eq (pv 4) pe_int (nomark _)) (pss_one (ps_ret (pe_op op_catA (pe_op op_catA (pe_slice sl_tupA (pv 1) po_none (po_some (pv 2))) (pe_tup (pa_cons (pe_call (GPI.mono (show k + 2 ≤ k + 2 by omega)) hr (by rfl) gPI kPI bPI .nil pass0 (pa_cons (pv 0) (pa_cons (pe_op op_cat (pv 3) (pe_lst (pa_cons (pe_call (GTA.mono (show k + 1 ≤ k + 2 by omega)) hr (by rfl) gTA kTA bTA .nil pass0 (pa_cons (pv 0) (pa_cons pe_int pa_nil))) pa_nil))) pa_nil))) pa_nil))) (pe_slice sl_tupA (pv 1) (po_some (pe_op op_add (pv 2) pe_int)) po_none)))) pss_nil)
      (pss_cons (ps_if (pt_cmpR op_eq (pv 4) pe_int (nomark _)) (pss_one (ps_ret (GT.pe_backT (pv 1) (po_some (pe_un un_neg pe_int))))) pss_nil)
      (pss_cons (ps_if (pt_cmpR op_eq (pv 4) pe_int (nomark _)) (pss_one (ps_ret (pe_call (GPI.mono (show k + 2 ≤ k + 2 by omega)) hr (by rfl) gPI kPI bPI .nil pass0 (pa_cons (pv 0) (pa_cons (pe_lst (pa_cons (pe_callTy call_list_of (by rfl) ml (by decide +kernel) (pa_cons (pv 1) pa_nil)) (pa_cons pe_non (pa_cons pe_dnewT (pa_cons pe_str (pa_cons pe_int (pa_cons (pe_tup (pa_cons (pv 1) pa_nil)) (pa_cons (pe_op op_catA (pv 1) (pv 1)) pa_nil)))))))) pa_nil))))) pss_nil)
      (pss_one (ps_ret (pv 1)))))))))))), ?_⟩
    have hxl : xs.length = ds.length := hxs.length
    refine ⟨.ref f, rfl, .ref a, rfl, a, xs, rfl, .inr (SqT.of ha), _, 1, rfl, rfl, f, _, rfl, by omega, by omega, hf, fun H1 r c1 f1 r0 r1 => ?_⟩
    obtain ⟨j, rfl⟩ : ∃ j : Nat, r = (j : Int) := ⟨r.toNat, by omega⟩
    have hj : j ≤ ds.length := by omega
    refine ⟨f1, fun v1 H2 s2 dv1 => ?_⟩
    cases dv1 with
    | @lst o1 ys1 _ no1 eo1 da1 =>
    refine ⟨.ref o1, rfl, f1.same s2, fun v2 H3 s3 dv2 => ?_⟩
    cases dv2 with
    | @lst o2 ys2 _ no2 eo2 da2 =>
    have f3 := (f1.same s2).same s3
    have l1 : ys1.length = 11 := da1.length
    have l2 : ys2.length = 11 := da2.length
    refine ⟨o1, o2, _, _, rfl, rfl, s3 _ _ eo1, eo2, by rw [l1, l2]; decide, fun o3 no3 => ?_⟩
    have s4 := same_new no3 (o := .lst (ys1 ++ ys2))
    have no3f := f3.ne no3
    have eo3 := upd_same (H := H3) (a := o3) (o := .lst (ys1 ++ ys2))
    have f4 := f3.same s4
    have da4 := ((da1.same s3).app da2).same s4
    have itO := it_app (it_list (ds := ODD1) (by decide +kernel)) (it_list (ds := ODD2) (by decide +kernel))
    have lO : (ys1 ++ ys2).length = 22 := by rw [List.length_append, l1, l2]
    have c4 : Ch f H (upd H3 o3 (.lst (ys1 ++ ys2))) := c1.trans (.of_same ((s2.trans s3).trans s4))
    generalize upd H3 o3 (.lst (ys1 ++ ys2)) = H4 at eo3 f4 da4 c4 ⊢
    have da4 : DvAll f H4 (ys1 ++ ys2) (ODD1 ++ ODD2) := da4
    generalize ODD1 ++ ODD2 = ods at da4 itO
    generalize ys1 ++ ys2 = yss at lO da4 eo3
    clear s4 no3 da1 da2 eo1 eo2 s3 s2 f3 f1 c1 no1 no2
    refine ⟨.ref f, rfl, f, 8, rfl, by decide, by decide, f4, fun H5 cs c5 f5 q0 q1 => ?_⟩
    have c05 := c4.trans c5
    have ha5 := c05 _ _ naf ha
    have eo5 := c5 _ _ no3f eo3
    have da5 := da4.ch c5 _ _
    have hx5 := hxs.ch c05 _ _
    clear c5 c4 eo3 da4 f4
    -- 0
    refine ⟨.int cs, rfl, rfl, _, rfl, iteD (fun _ => ?_) (fun _ => ?_)⟩
    · refine ⟨.ref a, rfl, .int j, rfl, _, rfl, slA ha5 naf f5 fun H6 p6 s6 n6 e6 => ?_⟩
      rw [M3W.cut_to] at e6
      refine ⟨.ref a, rfl, .int j, rfl, _, 1, rfl, rfl, _, rfl, ?_⟩
      dsimp only [tNoPart]
      refine (slA (s6 _ _ ha5) naf (f5.same s6) fun H7 p7 s7 n7 e7 => ?_)
      rw [show ((j : Nat) : Int) + 1 = ((j + 1 : Nat) : Int) by omega, M3W.cut_from] at e7
      refine ctA (s7 _ _ e6) e7 n6 n7 ((f5.same s6).same s7) (by rw [List.length_take, List.length_drop]; omega) fun H8 p8 s8 n8 e8 => ?_
      have sA := (s6.trans s7).trans s8
      exact hq H8 _ (.tuple (ds.take j ++ ds.drop (j + 1))) (c05.trans (.of_same sA)) (f5.same sA) (.tup n8 e8 (((hx5.take j).app (hx5.drop (j + 1))).same sA)) (tq_tup (it_app (it_take hit) (it_drop hit)) (by simp only [List.length_append, List.length_take, List.length_drop]; omega))
    -- 1, 2
    refine ⟨.int cs, rfl, show 2 ≤ sizeLine by decide, fun pt npt => ?_⟩
    have sp := same_new npt (o := .tup [.int 1, .int 2])
    have ept := upd_same (H := H5) (a := pt) (o := .tup [.int 1, .int 2])
    have c06 := c05.trans (.of_same sp)
    have f6 := f5.same sp
    have ha6 := sp _ _ ha5
    have eo6 := sp _ _ eo5
    have da6 := da5.same sp
    generalize upd H5 pt (.tup [.int 1, .int 2]) = H6 at ept c06 f6 ha6 eo6 da6 ⊢
    clear sp npt c05 f5 ha5 eo5 da5 hx5
    refine ⟨pt, _, rfl, .inr (SqT.of ept), rfl, rfl, _, rfl, iteD (fun _ => ?_) (fun _ => ?_)⟩
    · refine ⟨.ref o3, rfl, .ref f, rfl, f, 7, rfl, by decide, by decide, f6, fun H7 r7 c7 f7 z0 z1 => ⟨show 2 ≤ sizeLine by decide, fun t1 nt1 => ⟨show 2 ≤ sizeLine by decide, fun t2 nt2 => ⟨show 3 ≤ sizeLine by decide, fun l3 nl3 => ?_⟩⟩⟩⟩
      have u1 := same_new nt1 (o := .tup [.int 0, .int 1])
      have u2 := same_new nt2 (o := .tup [.int 1, .int 6])
      have u3 := same_new nl3 (o := .lst [.int r7, .ref t1, .ref t2])
      have g1 := u2 _ _ (upd_same (H := H7) (a := t1) (o := .tup [.int 0, .int 1]))
      have dn : DvAll f (upd (upd (upd H7 t1 (.tup [.int 0, .int 1])) t2 (.tup [.int 1, .int 6])) l3 (.lst [.int r7, .ref t1, .ref t2])) [.int r7, .ref t1, .ref t2] [.int r7, .tuple [.int 0, .int 1], .tuple [.int 1, .int 6]] :=
        .cons (.int _) (.cons (.tup (f7.ne nt1) (u3 _ _ g1) (.cons (.int _) (.cons (.int _) .nil))) (.cons (.tup ((f7.same u1).ne nt2) (u3 _ _ upd_same) (.cons (.int _) (.cons (.int _) .nil))) .nil))
      have uA := (u1.trans u2).trans u3
      have el3 := upd_same (H := upd (upd H7 t1 (.tup [.int 0, .int 1])) t2 (.tup [.int 1, .int 6])) (a := l3) (o := .lst [.int r7, .ref t1, .ref t2])
      have c08 := (c06.trans c7).trans (.of_same uA)
      have f8 := f7.same uA
      have eo8 := uA _ _ (c7 _ _ no3f eo6)
      have da8 := (da6.ch c7 _ _).same uA
      generalize upd (upd (upd H7 t1 (.tup [.int 0, .int 1])) t2 (.tup [.int 1, .int 6])) l3 (.lst [.int r7, .ref t1, .ref t2]) = H8 at dn el3 c08 f8 eo8 da8 ⊢
      refine ⟨o3, l3, _, _, rfl, rfl, eo8, el3, by rw [lO]; exact (show 25 ≤ sizeLine by decide), fun o4 no4 => ?_⟩
      have u4 := same_new no4 (o := .lst (yss ++ [.int r7, .ref t1, .ref t2]))
      have n4f := f8.ne no4
      have e4 := upd_same (H := H8) (a := o4) (o := .lst (yss ++ [.int r7, .ref t1, .ref t2]))
      have c09 := c08.trans (.of_same u4)
      have f9 := f8.same u4
      have da9 := (da8.app dn).same u4
      have it9 : ∀ d ∈ ods ++ [.int r7, .tuple [.int 0, .int 1], .tuple [.int 1, .int 6]], It d := it_app itO fun d m => by
        simp only [List.mem_cons, List.not_mem_nil, or_false] at m
        rcases m with rfl | rfl | rfl
        · exact it_int (by omega)
        · exact it_pair (by decide) (by decide)
        · exact it_pair (by decide) (by decide)
      generalize upd H8 o4 (.lst (yss ++ [.int r7, .ref t1, .ref t2])) = H9 at e4 c09 f9 da9 ⊢
      refine ⟨.ref a, rfl, .int j, rfl, _, rfl, slA (c09 _ _ naf ha) naf f9 fun H12 p12 s12 n12 e12 => ?_⟩
      rw [M3W.cut_to] at e12
      refine ⟨.ref f, rfl, .ref o4, rfl, f, o4, _, rfl, n4f, SqL.of (s12 _ _ e4), by simp, by rw [List.length_append, lO]; exact (show 25 ≤ 1000 by decide), f9.same s12, fun H13 jj v13 hv13 cc13 f13 => ?_⟩
      have c13 := (c09.trans (.of_same s12)).trans cc13
      have e13 := cc13 _ _ n12 e12
      have ha13 := c13 _ _ naf ha
      obtain ⟨d13, hd13, dv13⟩ := ((da9.same s12).ch cc13 _ _).at hv13
      have it13 := it9 _ (List.mem_of_getElem? hd13)
      refine ⟨show 1 ≤ sizeLine by decide, fun t5 nt5 => ?_⟩
      have st5 := same_new nt5 (o := .tup [v13])
      have lt : (xs.take j).length ≤ 20 := by rw [List.length_take]; omega
      have ld : (xs.drop j).length ≤ 20 := by rw [List.length_drop]; omega
      refine ctA (st5 _ _ e13) upd_same n12 (f13.ne nt5) (f13.same st5) (by simp only [List.length_singleton]; omega) fun H14 p14 s14 n14 e14 => ?_
      refine ⟨.ref a, rfl, .int j, rfl, _, rfl, ?_⟩
      dsimp only [tNoPart]
      refine (slA (s14 _ _ (st5 _ _ ha13)) naf ((f13.same st5).same s14) fun H15 p15 s15 n15 e15 => ?_)
      rw [M3W.cut_from] at e15
      refine ctA (s15 _ _ e14) e15 n14 n15 (((f13.same st5).same s14).same s15) (by rw [List.length_append, List.length_singleton]; omega) fun H16 p16 s16 n16 e16 => ?_
      have sA := ((st5.trans s14).trans s15).trans s16
      exact hq H16 _ (.tuple ((ds.take j ++ [d13]) ++ ds.drop j)) (c13.trans (.of_same sA)) (f13.same sA) (.tup n16 e16 (((((hxs.ch c13 _ _).take j).app (.cons dv13 .nil)).app ((hxs.ch c13 _ _).drop j)).same sA))
        (tq_tup (it_app (it_app (it_take hit) (fun d m => by rw [List.mem_singleton.mp m]; exact it13)) (it_drop hit)) (by simp only [List.length_append, List.length_take, List.length_drop, List.length_singleton]; omega))
    -- 3
    refine ⟨.int cs, rfl, rfl, _, rfl, iteD (fun _ => ?_) (fun _ => ?_)⟩
    · refine ⟨.ref a, rfl, .int j, rfl, _, rfl, slA ha6 naf f6 fun H12 p12 s12 n12 e12 => ?_⟩
      rw [M3W.cut_to] at e12
      refine ⟨.ref f, rfl, .ref o3, rfl, .ref f, rfl, f, 7, rfl, by decide, by decide, f6.same s12, fun H7 r7 c7 f7 z0 z1 => ⟨show 1 ≤ sizeLine by decide, fun l3 nl3 => ?_⟩⟩
      have u3 := same_new nl3 (o := .lst [.int r7])
      have el3 := upd_same (H := H7) (a := l3) (o := .lst [.int r7])
      have c08 := ((c06.trans (.of_same s12)).trans c7).trans (.of_same u3)
      have f8 := f7.same u3
      have eo8 := u3 _ _ (c7 _ _ no3f (s12 _ _ eo6))
      have da8 := ((da6.same s12).ch c7 _ _).same u3
      have e128 := u3 _ _ (c7 _ _ n12 e12)
      generalize upd H7 l3 (.lst [.int r7]) = H8 at el3 c08 f8 eo8 da8 e128 ⊢
      refine ⟨o3, l3, _, _, rfl, rfl, eo8, el3, by rw [lO]; exact (show 23 ≤ sizeLine by decide), fun o4 no4 => ?_⟩
      have u4 := same_new no4 (o := .lst (yss ++ [.int r7]))
      have n4f := f8.ne no4
      have e4 := upd_same (H := H8) (a := o4) (o := .lst (yss ++ [.int r7]))
      have c09 := c08.trans (.of_same u4)
      have f9 := f8.same u4
      have da9 := (da8.app (.cons (.int r7) .nil)).same u4
      have e129 := u4 _ _ e128
      have it9 : ∀ d ∈ ods ++ [.int r7], It d := it_app itO fun d m => by
        rw [List.mem_singleton.mp m]
        exact it_int (by omega)
      generalize upd H8 o4 (.lst (yss ++ [.int r7])) = H9 at e4 c09 f9 da9 e129 ⊢
      refine ⟨f, o4, _, rfl, n4f, SqL.of e4, by simp, by rw [List.length_append, lO]; exact (show 23 ≤ 1000 by decide), f9, fun H13 jj v13 hv13 cc13 f13 => ?_⟩
      have c13 := c09.trans cc13
      have e13 := cc13 _ _ n12 e129
      have ha13 := c13 _ _ naf ha
      obtain ⟨d13, hd13, dv13⟩ := (da9.ch cc13 _ _).at hv13
      have it13 := it9 _ (List.mem_of_getElem? hd13)
      refine ⟨show 1 ≤ sizeLine by decide, fun t5 nt5 => ?_⟩
      have st5 := same_new nt5 (o := .tup [v13])
      have lt : (xs.take j).length ≤ 20 := by rw [List.length_take]; omega
      have ld : (xs.drop (j + 1)).length ≤ 20 := by rw [List.length_drop]; omega
      refine ctA (st5 _ _ e13) upd_same n12 (f13.ne nt5) (f13.same st5) (by simp only [List.length_singleton]; omega) fun H14 p14 s14 n14 e14 => ?_
      refine ⟨.ref a, rfl, .int j, rfl, _, 1, rfl, rfl, _, rfl, ?_⟩
      dsimp only [tNoPart]
      refine (slA (s14 _ _ (st5 _ _ ha13)) naf ((f13.same st5).same s14) fun H15 p15 s15 n15 e15 => ?_)
      rw [show ((j : Nat) : Int) + 1 = ((j + 1 : Nat) : Int) by omega, M3W.cut_from] at e15
      refine ctA (s15 _ _ e14) e15 n14 n15 (((f13.same st5).same s14).same s15) (by rw [List.length_append, List.length_singleton]; omega) fun H16 p16 s16 n16 e16 => ?_
      have sA := ((st5.trans s14).trans s15).trans s16
      exact hq H16 _ (.tuple ((ds.take j ++ [d13]) ++ ds.drop (j + 1))) (c13.trans (.of_same sA)) (f13.same sA) (.tup n16 e16 (((((hxs.ch c13 _ _).take j).app (.cons dv13 .nil)).app ((hxs.ch c13 _ _).drop (j + 1))).same sA))
        (tq_tup (it_app (it_app (it_take hit) (fun d m => by rw [List.mem_singleton.mp m]; exact it13)) (it_drop hit)) (by simp only [List.length_append, List.length_take, List.length_drop, List.length_singleton]; omega))
    -- 4
    refine ⟨.int cs, rfl, rfl, _, rfl, iteD (fun _ => ?_) (fun _ => ?_)⟩
    · refine ⟨.ref a, rfl, 1, rfl, _, rfl, rfl, a, xs, rfl, SqT.of ha6, fun p np => ?_⟩
      have u := same_new np (o := .tup xs.reverse)
      exact hq _ _ (.tuple ds.reverse) (c06.trans (.of_same u)) (f6.same u) (.tup (f6.ne np) upd_same (((hxs.ch c06 _ _).rev).same u)) (tq_tup (fun d m => hit d (List.mem_reverse.mp m)) (by rw [List.length_reverse]; omega))
    -- 5
    refine ⟨.int cs, rfl, rfl, _, rfl, iteD (fun _ => ?_) (fun _ => ?_)⟩
    · refine ⟨.ref f, rfl, .ref a, rfl, a, xs, rfl, .inr (SqT.of ha6), fun l1 nl1 => fun dd ndd => ⟨.ref a, rfl, show 1 ≤ sizeLine by decide, fun t1 nt1 => ⟨.ref a, rfl, .ref a, rfl, ?_⟩⟩⟩
      have u1 := same_new nl1 (o := .lst xs)
      have u2 := same_new ndd (o := .dT [])
      have u3 := same_new nt1 (o := .tup [.ref a])
      have uA := (u1.trans u2).trans u3
      have k1 := u3 _ _ (u2 _ _ (upd_same (H := H6) (a := l1) (o := .lst xs)))
      have k2 := u3 _ _ (upd_same (H := upd H6 l1 (.lst xs)) (a := dd) (o := .dT []))
      have k3 := upd_same (H := upd (upd H6 l1 (.lst xs)) dd (.dT [])) (a := t1) (o := .tup [.ref a])
      have m1 := f6.ne nl1
      have m2 := (f6.same u1).ne ndd
      have m3 := ((f6.same u1).same u2).ne nt1
      have f7 := f6.same uA
      have c07 := c06.trans (.of_same uA)
      generalize upd (upd (upd H6 l1 (.lst xs)) dd (.dT [])) t1 (.tup [.ref a]) = H7 at k1 k2 k3 f7 c07 ⊢
      have ha7 := c07 _ _ naf ha
      have hx7 := hxs.ch c07 _ _
      refine ctA ha7 ha7 naf naf f7 (by omega) fun H8 p8 s8 n8 e8 => ⟨show 7 ≤ sizeLine by decide, fun ll nll => ?_⟩
      have u4 := same_new nll (o := .lst [.ref l1, .non, .ref dd, .str "", .int 7, .ref t1, .ref p8])
      have s9 := s8.trans u4
      have dA : DvAll f (upd H8 ll (.lst [.ref l1, .non, .ref dd, .str "", .int 7, .ref t1, .ref p8])) [.ref l1, .non, .ref dd, .str "", .int 7, .ref t1, .ref p8] [.list ds, .none, .dict [], .str "", .int 7, .tuple [.tuple ds], .tuple (ds ++ ds)] :=
        .cons (.lst m1 (s9 _ _ k1) (hx7.same s9)) (.cons .non (.cons (.dic m2 (s9 _ _ k2)) (.cons (.str _) (.cons (.int _) (.cons (.tup m3 (s9 _ _ k3) (.cons (.tup naf (s9 _ _ ha7) (hx7.same s9)) .nil)) (.cons (.tup n8 (u4 _ _ e8) ((hx7.app hx7).same s9)) .nil))))))
      have tA : ∀ d ∈ ([.list ds, .none, .dict [], .str "", .int 7, .tuple [.tuple ds], .tuple (ds ++ ds)] : List PyData), Tq d := fun d m => by
        simp only [List.mem_cons, List.not_mem_nil, or_false] at m
        rcases m with rfl | rfl | rfl | rfl | rfl | rfl | rfl
        · exact tq_lst hit (by omega)
        · exact tq_none
        · exact tq_dict
        · exact tq_str
        · exact tq_seven
        · exact tq_one hit (by omega)
        · exact tq_tup (it_app hit hit) (by rw [List.length_append]; omega)
      have f9 := f7.same s9
      have c09 := c07.trans (.of_same s9)
      have nllf := (f7.same s8).ne nll
      have ell := upd_same (H := H8) (a := ll) (o := .lst [.ref l1, .non, .ref dd, .str "", .int 7, .ref t1, .ref p8])
      refine ⟨f, ll, _, rfl, nllf, SqL.of ell, by show 0 < 7; decide, by show 7 ≤ 1000; decide, f9, fun H10 k v hv c10 f10 => ?_⟩
      obtain ⟨d, hd, dv⟩ := (dA.ch c10 _ _).at hv
      exact hq H10 v d (c09.trans c10) f10 dv (tA d (List.mem_of_getElem? hd))
    exact ⟨.ref a, rfl, hq H6 (.ref a) (.tuple ds) c06 f6 (.tup naf ha6 (hxs.ch c06 _ _)) (tq_tup hit (by omega))⟩
end
end M3X

set_option pp.maxSteps 900
/-! k30's law -/
namespace M3L
open PySem PySem.Spec PyProof.Rows L2 KA KD KM PH PM PA PB PC RM RN RC RS QE QF QG K20 KP GU DV M3N M3W M3X
abbrev sLaw : Stmt := topS 33
abbrev sLd : Stmt := topS 23
theorem scLd : FnScope ["feed", "size", "most", "turn"] ["feed", "size", "most"] (defScope M3L.sLd) := ⟨rfl, rfl, rfl, by decide +kernel, rfl, by decide +kernel, by decide +kernel⟩
theorem scLaw : FnScope ["script", "index", "feed", "far", "cycles", "rest", "turn", "one", "other", "before", "due", "reading"] ["script"] (defScope M3L.sLaw) := ⟨rfl, rfl, rfl, by decide +kernel, rfl, by decide +kernel, by decide +kernel⟩
structure Txt (K : PySem.W.Frag) (mg : Str → Option Value) (fCO fRG fIL fBT fMT fPB fCN fNU fRD fGE fAL fOU fIS fIC fFE fTA fPI fLD fTN fRN fHS fMY fKT fLR fLS fLC fLO : Addr) (dCO dRG dIL dBT dMT dPB dCN dNU dRD dGE dAL dOU dIS dIC dFE dTA dPI dLD dTN dRN dHS dMY dKT dLR dLS dLC dLO : FuncData) : Prop where
  FCO : Fun K "contains" "contains" sCont fCO dCO
  gCO : mg "contains" = some (.ref fCO)
  kCO : PySem.W.keepIn K (.ref fCO) = true
  bCO : Binds K dCO ["outer", "inner"] []
  FRG : Fun K "range_of" "range_of" sRng fRG dRG
  gRG : mg "range_of" = some (.ref fRG)
  kRG : PySem.W.keepIn K (.ref fRG) = true
  bRG : Binds K dRG ["one", "other"] []
  FIL : Fun K "is_left_out" "is_left_out" sLO fIL dIL
  gIL : mg "is_left_out" = some (.ref fIL)
  kIL : PySem.W.keepIn K (.ref fIL) = true
  bIL : Binds K dIL ["points", "reading"] []
  FBT : Fun K "_lies_between" "_lies_between" sBtw fBT dBT
  gBT : mg "_lies_between" = some (.ref fBT)
  kBT : PySem.W.keepIn K (.ref fBT) = true
  bBT : Binds K dBT ["reading", "before", "after"] []
  FMT : Fun K "_may_be_taken" "_may_be_taken" sMT fMT dMT
  gMT : mg "_may_be_taken" = some (.ref fMT)
  kMT : PySem.W.keepIn K (.ref fMT) = true
  bMT : Binds K dMT ["points", "place"] []
  FPB : Fun K "put_behind" "put_behind" sPB fPB dPB
  gPB : mg "put_behind" = some (.ref fPB)
  kPB : PySem.W.keepIn K (.ref fPB) = true
  bPB : Binds K dPB ["rest", "reading"] []
  FCN : Fun K "_counted" "_counted" sCo fCN dCN
  gCN : mg "_counted" = some (.ref fCN)
  kCN : PySem.W.keepIn K (.ref fCN) = true
  bCN : Binds K dCN ["load"] []
  FNU : Fun K "is_number" "is_number" sNu fNU dNU
  gNU : mg "is_number" = some (.ref fNU)
  kNU : PySem.W.keepIn K (.ref fNU) = true
  bNU : Binds K dNU ["value"] []
  FRD : Fun K "is_reading" "is_reading" sRd fRD dRD
  gRD : mg "is_reading" = some (.ref fRD)
  kRD : PySem.W.keepIn K (.ref fRD) = true
  bRD : Binds K dRD ["value"] []
  FGE : Fun K "is_range" "is_range" sRg fGE dGE
  gGE : mg "is_range" = some (.ref fGE)
  kGE : PySem.W.keepIn K (.ref fGE) = true
  bGE : Binds K dGE ["value"] []
  FAL : Fun K "are_left" "are_left" sAl fAL dAL
  gAL : mg "are_left" = some (.ref fAL)
  kAL : PySem.W.keepIn K (.ref fAL) = true
  bAL : Binds K dAL ["points"] []
  FOU : Fun K "cycles_outside" "cycles_outside" sCO2 fOU dOU
  gOU : mg "cycles_outside" = some (.ref fOU)
  kOU : PySem.W.keepIn K (.ref fOU) = true
  bOU : Binds K dOU ["cycles", "rest"] []
  FIS : Fun K "is_rest" "is_rest" sIR2 fIS dIS
  gIS : mg "is_rest" = some (.ref fIS)
  kIS : PySem.W.keepIn K (.ref fIS) = true
  bIS : Binds K dIS ["value"] []
  FIC : Fun K "is_count" "is_count" sIC fIC dIC
  gIC : mg "is_count" = some (.ref fIC)
  kIC : PySem.W.keepIn K (.ref fIC) = true
  bIC : Binds K dIC ["cycles", "rest"] []
  FFE : Fun K "_law_feed" "_law_feed" sFeed fFE dFE
  gFE : mg "_law_feed" = some (.ref fFE)
  kFE : PySem.W.keepIn K (.ref fFE) = true
  bFE : Binds K dFE ["script", "index"] []
  FTA : Fun K "_law_take" "_law_take" sTake fTA dTA
  gTA : mg "_law_take" = some (.ref fTA)
  kTA : PySem.W.keepIn K (.ref fTA) = true
  bTA : Binds K dTA ["feed", "size"] []
  FPI : Fun K "_law_pick" "_law_pick" sPick fPI dPI
  gPI : mg "_law_pick" = some (.ref fPI)
  kPI : PySem.W.keepIn K (.ref fPI) = true
  bPI : Binds K dPI ["feed", "options"] []
  FLD : Fun K "_law_load" "_law_load" M3L.sLd fLD dLD
  gLD : mg "_law_load" = some (.ref fLD)
  kLD : PySem.W.keepIn K (.ref fLD) = true
  bLD : Binds K dLD ["feed", "size", "most"] []
  FTN : Fun K "_law_turns" "_law_turns" sTn fTN dTN
  gTN : mg "_law_turns" = some (.ref fTN)
  kTN : PySem.W.keepIn K (.ref fTN) = true
  bTN : Binds K dTN ["load"] []
  FRN : Fun K "_law_range" "_law_range" sRn fRN dRN
  gRN : mg "_law_range" = some (.ref fRN)
  kRN : PySem.W.keepIn K (.ref fRN) = true
  bRN : Binds K dRN ["first", "second"] []
  FHS : Fun K "_law_has" "_law_has" sHs fHS dHS
  gHS : mg "_law_has" = some (.ref fHS)
  kHS : PySem.W.keepIn K (.ref fHS) = true
  bHS : Binds K dHS ["outer", "inner"] []
  FMY : Fun K "_law_may_take" "_law_may_take" sMy fMY dMY
  gMY : mg "_law_may_take" = some (.ref fMY)
  kMY : PySem.W.keepIn K (.ref fMY) = true
  bMY : Binds K dMY ["points", "k"] []
  FKT : Fun K "_law_count" "_law_count" sCt fKT dKT
  gKT : mg "_law_count" = some (.ref fKT)
  kKT : PySem.W.keepIn K (.ref fKT) = true
  bKT : Binds K dKT ["load"] []
  FLR : Fun K "_law_is_reading" "_law_is_reading" sLr fLR dLR
  gLR : mg "_law_is_reading" = some (.ref fLR)
  kLR : PySem.W.keepIn K (.ref fLR) = true
  bLR : Binds K dLR ["value"] []
  FLS : Fun K "_law_is_rest" "_law_is_rest" sLs fLS dLS
  gLS : mg "_law_is_rest" = some (.ref fLS)
  kLS : PySem.W.keepIn K (.ref fLS) = true
  bLS : Binds K dLS ["value"] []
  FLC : Fun K "_law_is_count" "_law_is_count" sLc fLC dLC
  gLC : mg "_law_is_count" = some (.ref fLC)
  kLC : PySem.W.keepIn K (.ref fLC) = true
  bLC : Binds K dLC ["cycles", "rest"] []
  FLO : Fun K "_law_other" "_law_other" sLo fLO dLO
  gLO : mg "_law_other" = some (.ref fLO)
  kLO : PySem.W.keepIn K (.ref fLO) = true
  bLO : Binds K dLO ["feed", "found"] []
  gLIM : ∃ u, mg "LIMIT" = some u ∧ RelV (.int 1000000000) u
  len : mg "len" = none
  max : mg "max" = none
  min : mg "min" = none
  abs : mg "abs" = none
  range : mg "range" = none
  sorted : mg "sorted" = none
  tuple : mg "tuple" = none
  list : mg "list" = none
  int : mg "int" = none
  isinstance : mg "isinstance" = none
  bool : mg "bool" = none
  enumerate : mg "enumerate" = none
  all : mg "all" = none
  repr : mg "repr" = none
theorem joinJ {R : Hp → V → V → Prop} {Pj : Hp → V → V → Prop} {A B : Prop} {c : Bool} (h1 : (∀ H v1 v2, Pj H v1 v2 → R H v1 v2) → A) (h2 : (∀ H v1 v2, Pj H v1 v2 → R H v1 v2) → B) (k : ∀ H v1 v2, Pj H v1 v2 → R H v1 v2) : if c = true then A else B := by
  cases c with
  | true => exact iteT (h1 k)
  | false => exact iteF (h2 k)
section
variable {P : Program} {w : World} {K : PySem.W.Frag} {mg : Str → Option Value} {base : Heap}
def spLd : Sp := fun vs H Q _ => ∃ (f : Addr) (n m : Int), vs = [.ref f, .int n, .int m] ∧ 0 ≤ n ∧ n ≤ 100 ∧ 0 ≤ m ∧ m < 2 ^ 40 ∧ FeedAt H f ∧
  ∀ H' p (ns : List Int), Ch f H H' → FeedAt H' f → H p = none → H' p = some (.lst (ns.map V.int)) → (ns.length : Int) = n → (∀ x ∈ ns, 0 ≤ x ∧ x ≤ m) → Q (.ref p) H'
theorem ok_ld {f fT : Addr} {fd dT : FuncData} {k : Nat} (F : Fun K "_law_load" "_law_load" sLd f fd) (GT : FnOk P w K mg base CX0 (k + 1) fT dT ["feed", "size"] spTake) (gT : mg "_law_take" = some (.ref fT)) (kT : PySem.W.keepIn K (.ref fT) = true) (bT : Binds K dT ["feed", "size"] []) (mr : mg "range" = none) :
    FnOk P w K mg base CX0 (k + 2) f fd ["feed", "size", "most"] spLd := by
  refine F.ok scLd (fun vs H Q E h => ?_) (fun cdv A outer s H vs Q E hr h => ?_)
  · obtain ⟨f, n, m, rfl, _⟩ := h
    rfl
  · obtain ⟨f, n, m, rfl, n0, n1, m0, m1, hf, q⟩ := h
    refine ⟨_, pss_one (ps_ret (pe_lc (own := [("turn", 3)]) (g := gName 3) rfl scLd.nd (pi_range1 rfl mr (pa_cons (pv 1) pa_nil)) (blkOk_by (own := [("turn", 3)]) (N := ["feed", "size", "most", "turn"]) (sc := defScope sLd) (by decide +kernel))
            (fun _ _ _ _ _ => pg_name (i := 3) scLd.nd rfl (Or.inl rfl) (Or.inr rfl)) (fun _ _ _ _ _ => pts_nil)
            (fun _ _ _ _ _ => pe_call GT hr (by rfl) gT kT bT .nil pass0 (pa_cons (pv 0) (pa_cons (pe_op op_add (pv 2) pe_int) pa_nil))))), ?_⟩
    refine ⟨.int n, rfl, n, rfl, by omega, by omega, fun D nD => ?_⟩
    have nDf := hf.ne nD
    refine lc_range (lo := 0) (n := n.toNat) (fun i Hz => Ch f H Hz ∧ FeedAt Hz f ∧ ∃ ns : List Int, ns.length = i ∧ (∀ x ∈ ns, 0 ≤ x ∧ x ≤ m) ∧ Hz D = some (.lst (ns.map V.int))) ⟨Ch.new nD, hf.upd nDf, [], rfl, fun _ z => (List.not_mem_nil z).elim, upd_same⟩ (fun i Hz hi ⟨c, fe, ns, h1, h2, h3⟩ => ?_) (fun Hz ⟨c, fe, ns, h1, h2, h3⟩ => q Hz D ns c fe nD h3 (by omega) h2)
    refine ⟨rfl, iteT (B := True) ⟨.ref f, rfl, .int m, rfl, m, 1, rfl, rfl, f, _, rfl, by omega, by omega, fe, fun H2 r c2 fe2 r0 r1 => ?_⟩⟩
    refine ⟨_, c2 _ _ nDf h3, ?_, Ch.again nD (c.trans c2), fe2.upd nDf, ns ++ [r], by rw [List.length_append, List.length_singleton, h1], fun x hx => ?_, ?_⟩
    · rw [List.length_map, h1]
      exact small3000 (by omega)
    · rcases List.mem_append.mp hx with z | z
      · exact h2 x z
      · rw [List.mem_singleton.mp z]
        omega
    · rw [upd_same, List.map_append]
      rfl
end
section
variable {P : Program} {w : World} {K : PySem.W.Frag} {mg : Str → Option Value} {base : Heap} {fCO fRG fIL fBT fMT fPB fCN fNU fRD fGE fAL fOU fIS fIC fFE fTA fPI fLD fTN fRN fHS fMY fKT fLR fLS fLC fLO : Addr} {dCO dRG dIL dBT dMT dPB dCN dNU dRD dGE dAL dOU dIS dIC dFE dTA dPI dLD dTN dRN dHS dMY dKT dLR dLS dLC dLO : FuncData}
def spLaw (K : PySem.W.Frag) : Sp := fun vs H Q _ => ∃ (a : Addr) (ns : List Int), vs = [.ref a] ∧ SqL K H a (ns.map V.int) ∧ ns.length ≤ 63 ∧ ∀ H', Q (.bl true) H'
theorem len_law {K : PySem.W.Frag} : ∀ vs H Q E, (spLaw K) vs H Q E → vs.length = (["script"] : List Str).length := fun vs H Q E h => by
  obtain ⟨a, ns, rfl, _⟩ := h
  rfl
theorem ok_law {f0 : Addr} {fd : FuncData} (F : Fun K "law" "law" M3L.sLaw f0 fd) (T : Txt K mg fCO fRG fIL fBT fMT fPB fCN fNU fRD fGE fAL fOU fIS fIC fFE fTA fPI fLD fTN fRN fHS fMY fKT fLR fLS fLC fLO dCO dRG dIL dBT dMT dPB dCN dNU dRD dGE dAL dOU dIS dIC dFE dTA dPI dLD dTN dRN dHS dMY dKT dLR dLS dLC dLO) : KW.Kept P w K mg base 8 f0 fd ["script"] (spLaw K) := by
  have GCO : FnOk P w K mg base CX0 1 fCO dCO ["outer", "inner"] (spCont K) := ok_Cont T.FCO
  have GRG : FnOk P w K mg base CX0 1 fRG dRG ["one", "other"] spRng := ok_Rng T.FRG T.min T.max
  have GIL : FnOk P w K mg base CX0 2 fIL dIL ["points", "reading"] (spLO K) := ok_LO T.FIL T.FBT T.gBT T.bBT T.len
  have GMT : FnOk P w K mg base CX0 2 fMT dMT ["points", "place"] (spMT K) := ok_MT T.FMT T.abs
  have GPB : FnOk P w K mg base CX0 3 fPB dPB ["rest", "reading"] spPB := ok_PB T.FPB GIL T.gIL T.kIL T.bIL GMT T.gMT T.kMT T.bMT (GRG.mono (by decide)) T.gRG T.kRG T.bRG T.len
  have GCN : FnOk P w K mg base CX0 4 fCN dCN ["load"] (spCo K) := ok_Co T.FCN GPB T.gPB T.kPB T.bPB
  have GNU : FnOk P w K mg base CX0 1 fNU dNU ["value"] spNu := ok_nu T.FNU T.isinstance T.int T.bool
  have GRD : FnOk P w K mg base CX0 2 fRD dRD ["value"] M3N.spRd := ok_rd T.FRD GNU T.gNU T.kNU T.bNU T.abs T.gLIM
  have GGE : FnOk P w K mg base CX0 3 fGE dGE ["value"] spRg := ok_rg T.FGE GRD T.gRD T.kRD T.bRD T.isinstance T.tuple T.len
  have GAL : FnOk P w K mg base CX0 5 fAL dAL ["points"] spAl := ok_al T.FAL GCN T.gCN T.kCN T.bCN T.list
  have GOU : FnOk P w K mg base CX0 2 fOU dOU ["cycles", "rest"] spOu := ok_ou T.FOU GCO T.gCO T.kCO T.bCO T.min T.max T.list
  have GIS : FnOk P w K mg base CX0 6 fIS dIS ["value"] spIs := ok_is T.FIS GRD T.gRD T.kRD T.bRD GAL T.gAL T.kAL T.bAL T.isinstance T.tuple T.all
  have GIC : FnOk P w K mg base CX0 7 fIC dIC ["cycles", "rest"] spIC := ok_ic T.FIC GGE T.gGE T.kGE T.bGE GIS T.gIS T.kIS T.bIS GOU T.gOU T.kOU T.bOU T.isinstance T.tuple T.all
  have GFE : FnOk P w K mg base CX0 1 fFE dFE ["script", "index"] (spFeed K) := ok_feed T.FFE T.len T.max T.abs
  have GTA : FnOk P w K mg base CX0 1 fTA dTA ["feed", "size"] spTake := ok_take T.FTA
  have GPI : FnOk P w K mg base CX0 2 fPI dPI ["feed", "options"] (spPick K) := ok_pick T.FPI T.FTA T.gTA T.bTA T.len
  have GLD : FnOk P w K mg base CX0 2 fLD dLD ["feed", "size", "most"] spLd := ok_ld T.FLD GTA T.gTA T.kTA T.bTA T.range
  have GTN : FnOk P w K mg base CX0 1 fTN dTN ["load"] (spTn K) := ok_tn T.FTN T.len T.range T.enumerate
  have GRN : FnOk P w K mg base CX0 1 fRN dRN ["first", "second"] spRng := ok_rn T.FRN T.min T.max
  have GHS : FnOk P w K mg base CX0 1 fHS dHS ["outer", "inner"] (spCont K) := ok_hs T.FHS
  have GMY : FnOk P w K mg base CX0 2 fMY dMY ["points", "k"] (spMy K) := ok_my T.FMY GRN T.gRN T.kRN T.bRN GHS T.gHS T.kHS T.bHS
  have GKT : FnOk P w K mg base CX0 3 fKT dKT ["load"] (spCt K) := ok_ct T.FKT GTN T.gTN T.kTN T.bTN GRN T.gRN T.kRN T.bRN GMY T.gMY T.kMY T.bMY T.len T.range T.sorted
  have GLR : FnOk P w K mg base CX0 1 fLR dLR ["value"] M3N.spRd := ok_lr T.FLR T.isinstance T.int T.bool T.abs
  have GLS : FnOk P w K mg base CX0 4 fLS dLS ["value"] spLs := ok_ls T.FLS GLR T.gLR T.kLR T.bLR GTN T.gTN T.kTN T.bTN GKT T.gKT T.kKT T.bKT T.isinstance T.tuple T.list
  have GLC : FnOk P w K mg base CX0 5 fLC dLC ["cycles", "rest"] spLc := ok_lc T.FLC GLS T.gLS T.kLS T.bLS GLR T.gLR T.kLR T.bLR T.isinstance T.tuple T.len T.min T.max
  have GLO : FnOk P w K mg base CX0 3 fLO dLO ["feed", "found"] spLo := ok_lo T.FLO GTA T.gTA T.kTA T.bTA GPI T.gPI T.kPI T.bPI T.list T.len
  have GCO := GCO.mono (show 1 ≤ 7 by decide)
  have GRG := GRG.mono (show 1 ≤ 7 by decide)
  have GIL := GIL.mono (show 2 ≤ 7 by decide)
  have GMT := GMT.mono (show 2 ≤ 7 by decide)
  have GPB := GPB.mono (show 3 ≤ 7 by decide)
  have GCN := GCN.mono (show 4 ≤ 7 by decide)
  have GNU := GNU.mono (show 1 ≤ 7 by decide)
  have GRD := GRD.mono (show 2 ≤ 7 by decide)
  have GGE := GGE.mono (show 3 ≤ 7 by decide)
  have GAL := GAL.mono (show 5 ≤ 7 by decide)
  have GOU := GOU.mono (show 2 ≤ 7 by decide)
  have GIS := GIS.mono (show 6 ≤ 7 by decide)
  have GIC := GIC.mono (show 7 ≤ 7 by decide)
  have GFE := GFE.mono (show 1 ≤ 7 by decide)
  have GTA := GTA.mono (show 1 ≤ 7 by decide)
  have GPI := GPI.mono (show 2 ≤ 7 by decide)
  have GLD := GLD.mono (show 2 ≤ 7 by decide)
  have GTN := GTN.mono (show 1 ≤ 7 by decide)
  have GRN := GRN.mono (show 1 ≤ 7 by decide)
  have GHS := GHS.mono (show 1 ≤ 7 by decide)
  have GMY := GMY.mono (show 2 ≤ 7 by decide)
  have GKT := GKT.mono (show 3 ≤ 7 by decide)
  have GLR := GLR.mono (show 1 ≤ 7 by decide)
  have GLS := GLS.mono (show 4 ≤ 7 by decide)
  have GLC := GLC.mono (show 5 ≤ 7 by decide)
  have GLO := GLO.mono (show 3 ≤ 7 by decide)
  refine KW.kept_of F M3L.scLaw len_law (fun cdv A outer s H vs Q E hgA hr h => ?_)
  · obtain ⟨a, ns, rfl, hS, hlen, q⟩ := h
    have hg : (A.deeper (envOfC "law" (defScope M3L.sLaw) s.heap.objs.size f0 cdv)).guards = some [] := hgA
    have hu : (A.deeper (envOfC "law" (defScope M3L.sLaw) s.heap.objs.size f0 cdv)).units + 100 < cLine := by have := hr.un; omega
    refine ⟨_, (pss_cons (ps_for PassesOwn.never rfl (pi_range1 rfl T.range (pa_cons (pe_callB (call_max2 rfl) (by rfl) T.max (by decide +kernel) (pa_cons pe_int (pa_cons (pe_callB (call_min2 rfl) (by rfl) T.min (by decide +kernel) (pa_cons pe_int (pa_cons (pe_callB call_len_seq (by rfl) T.len PySem.boot_len (pa_cons (pv 0) pa_nil)) pa_nil))) pa_nil))) pa_nil)) (pg_name (i := 1) M3L.scLaw.nd rfl (.inl rfl))
      (pss_cons (ps_set (i := 2) M3L.scLaw.nd rfl (.inl rfl) (pe_call GFE hr (by rfl) T.gFE T.kFE T.bFE .nil pass0 (pa_cons (pv 0) (pa_cons (pv 1) pa_nil))))
      (pss_cons (ps_set (i := 3) M3L.scLaw.nd rfl (.inr rfl) (pe_call GPI hr (by rfl) T.gPI T.kPI T.bPI .nil pass0 (pa_cons (pv 2) (pa_cons (pe_lst (pa_cons pe_int (pa_cons pe_int (pa_cons (pe_un un_neg pe_int) (pa_cons (pe_un un_neg pe_int) pa_nil))))) pa_nil))))
      (pss_cons (ps_asg (pe_call GKT hr (by rfl) T.gKT T.kKT T.bKT .nil pass0 (pa_cons (pe_lc (own := [("reading", 11)]) (g := gName 11) (tt := tYes) (te := tOp (rI0 fun i j => V.int (i + j)) (tVar 11) (tVar 3)) rfl M3L.scLaw.nd (pi_list (pe_call GLD hr (by rfl) T.gLD T.kLD T.bLD .nil pass0 (pa_cons (pv 2) (pa_cons (pe_call GTA hr (by rfl) T.gTA T.kTA T.bTA .nil pass0 (pa_cons (pv 2) (pa_cons pe_int pa_nil))) (pa_cons pe_int pa_nil))))) (blkOk_by (own := [("reading", 11)]) (N := ["script", "index", "feed", "far", "cycles", "rest", "turn", "one", "other", "before", "due", "reading"]) (sc := defScope M3L.sLaw) (by decide +kernel)) (fun _ _ _ _ _ => (pg_name (i := 11) M3L.scLaw.nd rfl (Or.inl rfl) (Or.inr rfl))) (fun _ _ _ _ _ => pts_nil) (fun _ _ _ _ _ => (pe_op op_add (pv 11) (pv 3)))) pa_nil)) (pg_tup rfl (pgs_cons (pg_name (i := 4) M3L.scLaw.nd rfl (.inl rfl)) (pgs_cons (pg_name (i := 5) M3L.scLaw.nd rfl (.inl rfl)) pgs_nil))))
      (pss_one (ps_for PassesOwn.never rfl (pi_range1 rfl T.range (pa_cons pe_int pa_nil)) (pg_name (i := 6) M3L.scLaw.nd rfl (.inl rfl))
      (pss_cons (ps_par (i := 7) (j := 8) (by rfl) M3L.scLaw.nd rfl rfl (by decide) rfl rfl (pa_cons (pe_callTy call_tuple_of (by rfl) T.tuple (by decide +kernel) (pa_cons (pv 4) pa_nil)) (pa_cons (pe_callTy call_tuple_of (by rfl) T.tuple (by decide +kernel) (pa_cons (pv 5) pa_nil)) pa_nil)) (by rfl))
      (pss_cons (ps_if (pt_cmpR op_gt (pv 6) pe_int (nomark _)) (pss_one (ps_par (i := 7) (j := 8) (by rfl) M3L.scLaw.nd rfl rfl (by decide) rfl rfl (pa_cons (pe_call GLO hr (by rfl) T.gLO T.kLO T.bLO .nil pass0 (pa_cons (pv 2) (pa_cons (pv 7) pa_nil))) (pa_cons (pe_call GLO hr (by rfl) T.gLO T.kLO T.bLO .nil pass0 (pa_cons (pv 2) (pa_cons (pv 8) pa_nil))) pa_nil)) (by rfl))) pss_nil)
      (pss_cons (ps_if (pt_cmpR op_gt (pv 6) pe_int (nomark _)) (pss_one (ps_set (i := 7) M3L.scLaw.nd rfl (.inl rfl) (pe_callTy call_tuple_of (by rfl) T.tuple (by decide +kernel) (pa_cons (pv 4) pa_nil)))) pss_nil)
      (pss_cons (ps_set (i := 9) M3L.scLaw.nd rfl (.inl rfl) (pe_callB (cr_reprV hg hu) (by rfl) T.repr (by decide +kernel) (pa_cons (pe_lst (pa_cons (pv 7) (pa_cons (pv 8) pa_nil))) pa_nil)))
      (pss_cons (ps_if (pt_cmpR op_ne (pe_callB cr_reprB (by rfl) T.repr (by decide +kernel) (pa_cons (pe_call GIS hr (by rfl) T.gIS T.kIS T.bIS .nil pass0 (pa_cons (pv 8) pa_nil)) pa_nil)) (pe_callB cr_reprB (by rfl) T.repr (by decide +kernel) (pa_cons (pe_call GLS hr (by rfl) T.gLS T.kLS T.bLS .nil pass0 (pa_cons (pv 8) pa_nil)) pa_nil)) (nomark _)) (pss_one (ps_ret pe_bl)) pss_nil)
      (pss_cons (ps_set (i := 10) M3L.scLaw.nd rfl (.inl rfl) (pe_call GLC hr (by rfl) T.gLC T.kLC T.bLC .nil pass0 (pa_cons (pv 7) (pa_cons (pv 8) pa_nil))))
      (pss_one (ps_if (PW.pt (pw_or (pt_cmpR op_ne (pe_callB cr_reprB (by rfl) T.repr (by decide +kernel) (pa_cons (pe_call GIC hr (by rfl) T.gIC T.kIC T.bIC .nil pass0 (pa_cons (pv 7) (pa_cons (pv 8) pa_nil))) pa_nil)) (pe_callB cr_reprB (by rfl) T.repr (by decide +kernel) (pa_cons (pv 10) pa_nil)) (nomark _)) (pw_or1 (pt_cmpR op_ne (pe_callB (cr_reprV hg hu) (by rfl) T.repr (by decide +kernel) (pa_cons (pe_lst (pa_cons (pv 7) (pa_cons (pv 8) pa_nil))) pa_nil)) (pv 9) (nomark _))))) (pss_one (ps_ret pe_bl)) pss_nil))))))))))))))
      (pss_one (ps_ret pe_bl))), ?_⟩
    have l1s : 1 ≤ sizeLine := by decide
    have l2s : 2 ≤ sizeLine := by decide
    have l4s : 4 ≤ sizeLine := by decide
    refine ⟨.ref a, rfl, a, ns.map V.int, rfl, .inl hS, 4, ((ns.map V.int).length : Int), rfl, 1, _, rfl, _, rfl, ?_⟩
    generalize hm : (if (if ((ns.map V.int).length : Int) < 4 then ((ns.map V.int).length : Int) else 4) > 1 then (if ((ns.map V.int).length : Int) < 4 then ((ns.map V.int).length : Int) else 4) else 1) = m
    have m0 : 0 ≤ m ∧ m ≤ 4 := by subst hm; split <;> split <;> omega
    refine ⟨by omega, by omega, for_range (lo := 0) (n := m.toNat) (fun i σ H' => Same H H' ∧ ∃ r1 r2 r3 r4 r5 r6 r7 r8 r9 r10 r11 : Option V, σ = [some (.ref a), r1, r2, r3, r4, r5, r6, r7, r8, r9, r10, r11]) ⟨Same.refl H, _, _, _, _, _, _, _, _, _, _, _, rfl⟩ ?_ (fun σ H1 _ => q _)⟩
    rintro i σ H' hi ⟨sm, r1, r2, r3, r4, r5, r6, r7, r8, r9, r10, r11, rfl⟩
    refine ⟨.ref a, rfl, .int (0 + (i : Int)), rfl, a, ns, 0 + (i : Int), rfl, sm.seq hS, by omega, by omega, fun H1 f s1 nf fe => ?_⟩
    have hf0 : H f = none := sm.free nf
    have sm1 := sm.trans s1
    clear sm s1 nf
    refine ⟨.ref f, rfl, 4, rfl, 50, rfl, l4s, fun l nl => ?_⟩
    have sl := same_new nl (o := .lst [.int 0, .int 0, .int (-4), .int (-50)])
    refine ⟨f, l, _, rfl, fe.ne nl, SqL.of upd_same, by show 0 < 4; decide, by show 4 ≤ 1000; decide, fe.same sl, fun H2 k vv hk c2 fe2 => ?_⟩
    obtain ⟨far, rfl, b1, b2⟩ : ∃ far, vv = V.int far ∧ -50 ≤ far ∧ far ≤ 0 := by
      match k, hk with
      | 0, hk => exact ⟨_, (Option.some.inj hk).symm, by decide, by decide⟩
      | 1, hk => exact ⟨_, (Option.some.inj hk).symm, by decide, by decide⟩
      | 2, hk => exact ⟨_, (Option.some.inj hk).symm, by decide, by decide⟩
      | 3, hk => exact ⟨_, (Option.some.inj hk).symm, by decide, by decide⟩
      | n + 4, hk => simp at hk
    have sm2 := c2.old hf0 (sm1.trans sl)
    clear hk c2 nl sl fe sm1
    refine ⟨.ref f, rfl, .ref f, rfl, f, 10, rfl, by decide, by decide, fe2, fun H3 r c3 fe3 r0 r1 => ⟨f, r, 5, rfl, r0, by omega, by decide, by decide, fe3, fun H4 p lds c4 fe4 np hp ln bd => ?_⟩⟩
    have sm4 := c4.old hf0 (c3.old hf0 sm2)
    have ll : lds.length ≤ 9 := by omega
    clear c3 c4 fe2 fe3 sm2 np
    refine ⟨p, rfl, ⟨_, SqL.of hp⟩, fun D nD => ?_⟩
    refine lc_it (walk_list (xs := lds.map V.int)) (fun i Hz => Same H4 Hz ∧ Hz D = some (.lst (((lds.take i).map (· + far)).map V.int))) ⟨same_new nD, upd_same⟩ (fun i Hz _ z => SqL.of (z.1 _ _ hp)) ?_ ?_
    · rintro i x Hz H5 hi ⟨sz, hD⟩ ⟨rfl, hx⟩
      obtain ⟨z, hz, rfl⟩ := int_at hx
      refine ⟨rfl, iteT (B := True) ⟨.int z, rfl, .int far, rfl, z, far, rfl, rfl, _, hD, ?_, fun b o eb => ?_, ?_⟩⟩
      · rw [List.length_map, List.length_map, List.length_take]
        exact small3000 (by omega)
      · rw [upd_ne (ne_of_none eb nD)]
        exact sz b o eb
      · rw [List.take_add_one, hz, Option.toList_some, List.map_append, List.map_append]
        exact upd_same
    rintro H5 ⟨s5, hD⟩
    rw [List.length_map, List.take_length] at hD
    have fe5 := fe4.same s5
    refine ⟨D, lds.map (· + far), rfl, .inl (SqL.of hD), by rw [List.length_map]; omega, fun H7 p7 c rr xs cs rs s7 hp7 hc pa hr' nr nc k1 k2 m1 m2 _ => ?_⟩
    have fe7 := fe5.same s7
    have ncf : c ≠ f := fe5.ne nc
    have nrf : rr ≠ f := fe5.ne nr
    rw [List.length_map] at k1 k2
    have bnd : ∀ x ∈ lds.map (· + far), -50 ≤ x ∧ x ≤ 5 := fun x hx => by
      obtain ⟨y, hy, rfl⟩ := List.mem_map.mp hx
      have := bd y hy
      omega
    have itR : ∀ d ∈ dInts rs, It d := fun d hd => by
      obtain ⟨y, hy, rfl⟩ := List.mem_map.mp hd
      have := bnd y (m1 y hy)
      exact it_int (by omega)
    have itC : ∀ d ∈ dPairs cs, It d := fun d hd => by
      obtain ⟨y, hy, rfl⟩ := List.mem_map.mp hd
      have g1 := bnd _ (m2 y hy).1
      have g2 := bnd _ (m2 y hy).2
      exact it_pair (by omega) (by omega)
    have lR : (dInts rs).length ≤ 20 := by unfold dInts; rw [List.length_map]; omega
    have lC : (dPairs cs).length ≤ 20 := by unfold dPairs; rw [List.length_map]; omega
    have hfl : ∃ l, H7 f = some (.lst l) := by obtain ⟨_, _, _, _, _, e⟩ := fe7; exact ⟨_, e⟩
    have dC := dv_pairs hfl pa
    have sm7 := (sm4.trans s5).trans s7
    clear m1 m2 bnd bd nr nc pa hD fe5 s5 s7 sm4 fe4 hp hfl
    refine ⟨p7, _, rfl, SqT.of hp7, rfl, .ref c, _, rfl, .ref rr, _, rfl, rfl, ?_⟩
    refine ⟨8, rfl, by decide, by decide, for_range (lo := 0) (n := 8) (fun i σ Hx => Ch f H7 Hx ∧ FeedAt Hx f ∧ ∃ r1 r6 r7 r8 r9 r10 r11 : Option V, σ = [some (.ref a), r1, some (.ref f), some (.int far), some (.ref c), some (.ref rr), r6, r7, r8, r9, r10, r11]) ⟨Ch.refl f H7, fe7, _, _, _, _, _, _, _, rfl⟩ ?_ (fun σ Hx z => ?_)⟩
    · rintro i2 σ Hx hi2 ⟨cx, fx, r1, r6, r7, r8, r9, r10, r11, rfl⟩
      refine ⟨.ref c, rfl, c, xs, rfl, .inl ⟨SqL.of (cx _ _ ncf hc), fun t1 nt1 => ⟨.ref rr, rfl, rr, rs.map V.int, rfl, .inl ⟨SqL.of (same_new nt1 _ _ (cx _ _ nrf hr')), fun t2 nt2 => ⟨.ref t1, .ref t2, rfl, ?_⟩⟩⟩⟩⟩
      have u1 := same_new nt1 (o := .tup xs)
      have u2 := same_new nt2 (o := .tup (rs.map V.int))
      have uA := u1.trans u2
      have n1 := fx.ne nt1
      have n2 := (fx.same u1).ne nt2
      have e1 := u2 _ _ (upd_same (H := Hx) (a := t1) (o := .tup xs))
      have e2 := upd_same (H := upd Hx t1 (.tup xs)) (a := t2) (o := .tup (rs.map V.int))
      have f8 := fx.same uA
      have c8 := cx.trans (.of_same uA)
      generalize upd (upd Hx t1 (.tup xs)) t2 (.tup (rs.map V.int)) = H8 at e1 e2 f8 c8 ⊢
      clear uA u1 u2 nt1 nt2 fx cx
      refine ⟨.int (0 + (i2 : Int)), rfl, 0 + (i2 : Int), 0, rfl, rfl, _, rfl, ?_⟩
      refine joinJ (R := ?R) (Pj := fun Hy v1 v2 => Ch f H7 Hy ∧ FeedAt Hy f ∧ ∃ d1 d2, Dv f Hy v1 d1 ∧ Dv f Hy v2 d2 ∧ Tq d1 ∧ Tq d2) (fun key => ?h1) (fun key => ?h2) ?k
      case h1 =>
        refine ⟨.ref f, rfl, .ref t1, rfl, f, t1, xs, dPairs cs, rfl, f8, e1, n1, dC.ch c8 _ _, itC, lC, fun H9 v1 d1 c9 f9 dv1 tq1 => ?_⟩
        refine ⟨.ref f, rfl, .ref t2, rfl, f, t2, _, dInts rs, rfl, f9, c9 _ _ n2 e2, n2, dv_ints rs, itR, lR, fun H10 v2 d2 c10 f10 dv2 tq2 => ⟨v1, v2, rfl, ?_⟩⟩
        exact key H10 v1 v2 ⟨(c8.trans c9).trans c10, f10, d1, d2, dv1.ch c10 _ _, dv2, tq1, tq2⟩
      case h2 =>
        exact key H8 (.ref t1) (.ref t2) ⟨c8, f8, _, _, .tup n1 e1 (dC.ch c8 _ _), .tup n2 e2 (dv_ints rs), tq_tup itC (by omega), tq_tup itR (by omega)⟩
      case k =>
      rintro Hy v1 v2 ⟨cy, fy, d1, d2, dv1, dv2, tq1, tq2⟩
      clear f8 c8 e1 e2 n1 n2
      refine ⟨.int (0 + (i2 : Int)), rfl, 0 + (i2 : Int), 4, rfl, rfl, _, rfl, ?_⟩
      refine joinJ (R := ?R2) (Pj := fun Hz w1 w2 => w2 = v2 ∧ Ch f H7 Hz ∧ FeedAt Hz f ∧ ∃ d, Dv f Hz w1 d ∧ Dv f Hz v2 d2 ∧ Tq d) (fun key => ?g1) (fun key => ?g2) ?g3
      case g2 =>
        generalize hHq : Hy = Hq
        generalize hv1q : v1 = v1q
        generalize hv2q : v2 = v2q
        refine key Hq v1q v2q ?_
        rw [← hHq, ← hv1q, ← hv2q]
        exact ⟨rfl, cy, fy, d1, dv1, dv2, tq1⟩
      case g1 =>
        refine ⟨.ref c, rfl, c, xs, rfl, .inl ⟨SqL.of (cy _ _ ncf hc), fun t3 nt3 => ?_⟩⟩
        have u3 := same_new nt3 (o := .tup xs)
        exact key (upd Hy t3 (.tup xs)) (.ref t3) v2 ⟨rfl, cy.trans (.of_same u3), fy.same u3, _, .tup (fy.ne nt3) upd_same ((dC.ch cy _ _).same u3), dv2.same u3, tq_tup itC (by omega)⟩
      case g3 =>
      rintro Hz w1 w2 ⟨rfl, cz, fz, e, dw1, dw2, tw1⟩
      clear dv1 dv2 fy cy tq1
      refine ⟨w1, rfl, w2, rfl, l2s, fun l nl => ?_⟩
      have ul := same_new nl (o := .lst [w1, w2])
      refine ⟨f, l, w1, w2, e, d2, rfl, upd_same, dw1.same ul, dw2.same ul, tw1.tp, tq2.tp, ?_⟩
      have dx1 := dw1.same ul
      have dx2 := dw2.same ul
      have f11 := fz.same ul
      have c11 := cz.trans (.of_same ul)
      generalize upd Hz l (.lst [w1, w2]) = H11 at dx1 dx2 f11 c11 ⊢
      refine ⟨w2, rfl, w2, f, d2, rfl, dx2, tq2.vl.wd, fun Ha sa => ⟨_, rfl, ?_⟩⟩
      refine ⟨w2, rfl, w2, f, d2, rfl, dx2.same sa, tq2.vl, fun Hb sb => ⟨_, rfl, rfl, _, rfl, ?_⟩⟩
      rw [decide_eq_true rfl]
      have sab := sa.trans sb
      refine iteF ⟨w1, rfl, w2, rfl, w1, w2, f, e, d2, rfl, dx1.same sab, dx2.same sab, tw1.vl, tq2.vl, fun Hc sc => ?_⟩
      have sac := sab.trans sc
      refine ⟨w1, rfl, w2, rfl, w1, w2, f, e, d2, rfl, dx1.same sac, dx2.same sac, tw1.vl.wd, tq2.vl.wd, fun Hd sd => ⟨_, rfl, .bl _, rfl, _, rfl, rfl, _, rfl, ?_⟩⟩
      rw [decide_eq_true rfl]
      have sad := sac.trans sd
      refine iteF ⟨w1, rfl, w2, rfl, l2s, fun l2 nl2 => ?_⟩
      have ul2 := same_new nl2 (o := .lst [w1, w2])
      refine ⟨f, l2, w1, w2, e, d2, rfl, upd_same, (dx1.same sad).same ul2, (dx2.same sad).same ul2, tw1.tp, tq2.tp, .str _, rfl, rfl, _, rfl, ?_⟩
      rw [decide_eq_true rfl]
      exact iteF ⟨c11.trans (.of_same (sad.trans ul2)), (f11.same sad).same ul2, _, _, _, _, _, _, _, rfl⟩
    · obtain ⟨cx, fx, r1, r6, r7, r8, r9, r10, r11, rfl⟩ := z
      exact ⟨cx.old hf0 sm7, _, _, _, _, _, _, _, _, _, _, _, rfl⟩
end
end M3L

set_option pp.maxSteps 300
namespace M3E0
open PySem PySem.Spec PyProof.Rows L2 KA KD KM PH PM PA PB PC RM RN RC RS QE QF QG K20 KP GU DV M3N M3W M3X M3L
theorem all_mk {l : PySem.W.OpenLaw} {w : World} {K : PySem.W.Frag} {h : Heap} {mg : Str → Option Value} {fa fCO fRG fIL fBT fMT fPB fCN fNU fRD fGE fAL fOU fIS fIC fFE fTA fPI fLD fTN fRN fHS fMY fKT fLR fLS fLC fLO fLAW : Addr} (X : K.In h) (G : h.Ns mainGlobals mg) (hfa : mg "law" = some (.ref fa))
    {odCO anCO odRG anRG odIL anIL odBT anBT odMT anMT odPB anPB odCN anCN odNU anNU odRD anRD odGE anGE odAL anAL odOU anOU odIS anIS odIC anIC odFE anFE odTA anTA odPI anPI odLD anLD odTN anTN odRN anRN odHS anHS odMY anMY odKT anKT odLR anLR odLS anLS odLC anLC odLO anLO odLAW anLAW : Option Addr} {slCO slRG slIL slBT slMT slPB slCN slNU slRD slGE slAL slOU slIS slIC slFE slTA slPI slLD slTN slRN slHS slMY slKT slLR slLS slLC slLO slLAW : Array (Option Value)} {ocCO dcCO pmCO cdCO ctCO kVCO ocRG dcRG pmRG cdRG ctRG kVRG ocIL dcIL pmIL cdIL ctIL kVIL ocBT dcBT pmBT cdBT ctBT kVBT ocMT dcMT pmMT cdMT ctMT kVMT ocPB dcPB pmPB cdPB ctPB kVPB ocCN dcCN pmCN cdCN ctCN kVCN ocNU dcNU pmNU cdNU ctNU kVNU ocRD dcRD pmRD cdRD ctRD kVRD ocGE dcGE pmGE cdGE ctGE kVGE ocAL dcAL pmAL cdAL ctAL kVAL ocOU dcOU pmOU cdOU ctOU kVOU ocIS dcIS pmIS cdIS ctIS kVIS ocIC dcIC pmIC cdIC ctIC kVIC ocFE dcFE pmFE cdFE ctFE kVFE ocTA dcTA pmTA cdTA ctTA kVTA ocPI dcPI pmPI cdPI ctPI kVPI ocLD dcLD pmLD cdLD ctLD kVLD ocTN dcTN pmTN cdTN ctTN kVTN ocRN dcRN pmRN cdRN ctRN kVRN ocHS dcHS pmHS cdHS ctHS kVHS ocMY dcMY pmMY cdMY ctMY kVMY ocKT dcKT pmKT cdKT ctKT kVKT ocLR dcLR pmLR cdLR ctLR kVLR ocLS dcLS pmLS cdLS ctLS kVLS ocLC dcLC pmLC cdLC ctLC kVLC ocLO dcLO pmLO cdLO ctLO kVLO vgLIM ocLAW dcLAW pmLAW cdLAW ctLAW kVLAW : Value}
    (aCO : PySem.W.nsIn K mainGlobals "contains" = some (some (.ref fCO)))
    (lCO : K.lookup fCO = some ⟨ocCO, odCO, .func (PySem.W.fnOf "contains" "contains" (defArgs sCont) (defBody sCont) (defScope sCont) .none kVCO dcCO pmCO anCO cdCO ctCO), slCO⟩)
    (cCO : PySem.W.codeIn K cdCO "contains" = true)
    (kCO : PySem.W.keepIn K (.ref fCO) = true)
    (aRG : PySem.W.nsIn K mainGlobals "range_of" = some (some (.ref fRG)))
    (lRG : K.lookup fRG = some ⟨ocRG, odRG, .func (PySem.W.fnOf "range_of" "range_of" (defArgs sRng) (defBody sRng) (defScope sRng) .none kVRG dcRG pmRG anRG cdRG ctRG), slRG⟩)
    (cRG : PySem.W.codeIn K cdRG "range_of" = true)
    (kRG : PySem.W.keepIn K (.ref fRG) = true)
    (aIL : PySem.W.nsIn K mainGlobals "is_left_out" = some (some (.ref fIL)))
    (lIL : K.lookup fIL = some ⟨ocIL, odIL, .func (PySem.W.fnOf "is_left_out" "is_left_out" (defArgs sLO) (defBody sLO) (defScope sLO) .none kVIL dcIL pmIL anIL cdIL ctIL), slIL⟩)
    (cIL : PySem.W.codeIn K cdIL "is_left_out" = true)
    (kIL : PySem.W.keepIn K (.ref fIL) = true)
    (aBT : PySem.W.nsIn K mainGlobals "_lies_between" = some (some (.ref fBT)))
    (lBT : K.lookup fBT = some ⟨ocBT, odBT, .func (PySem.W.fnOf "_lies_between" "_lies_between" (defArgs sBtw) (defBody sBtw) (defScope sBtw) .none kVBT dcBT pmBT anBT cdBT ctBT), slBT⟩)
    (cBT : PySem.W.codeIn K cdBT "_lies_between" = true)
    (kBT : PySem.W.keepIn K (.ref fBT) = true)
    (aMT : PySem.W.nsIn K mainGlobals "_may_be_taken" = some (some (.ref fMT)))
    (lMT : K.lookup fMT = some ⟨ocMT, odMT, .func (PySem.W.fnOf "_may_be_taken" "_may_be_taken" (defArgs sMT) (defBody sMT) (defScope sMT) .none kVMT dcMT pmMT anMT cdMT ctMT), slMT⟩)
    (cMT : PySem.W.codeIn K cdMT "_may_be_taken" = true)
    (kMT : PySem.W.keepIn K (.ref fMT) = true)
    (aPB : PySem.W.nsIn K mainGlobals "put_behind" = some (some (.ref fPB)))
    (lPB : K.lookup fPB = some ⟨ocPB, odPB, .func (PySem.W.fnOf "put_behind" "put_behind" (defArgs sPB) (defBody sPB) (defScope sPB) .none kVPB dcPB pmPB anPB cdPB ctPB), slPB⟩)
    (cPB : PySem.W.codeIn K cdPB "put_behind" = true)
    (kPB : PySem.W.keepIn K (.ref fPB) = true)
    (aCN : PySem.W.nsIn K mainGlobals "_counted" = some (some (.ref fCN)))
    (lCN : K.lookup fCN = some ⟨ocCN, odCN, .func (PySem.W.fnOf "_counted" "_counted" (defArgs sCo) (defBody sCo) (defScope sCo) .none kVCN dcCN pmCN anCN cdCN ctCN), slCN⟩)
    (cCN : PySem.W.codeIn K cdCN "_counted" = true)
    (kCN : PySem.W.keepIn K (.ref fCN) = true)
    (aNU : PySem.W.nsIn K mainGlobals "is_number" = some (some (.ref fNU)))
    (lNU : K.lookup fNU = some ⟨ocNU, odNU, .func (PySem.W.fnOf "is_number" "is_number" (defArgs sNu) (defBody sNu) (defScope sNu) .none kVNU dcNU pmNU anNU cdNU ctNU), slNU⟩)
    (cNU : PySem.W.codeIn K cdNU "is_number" = true)
    (kNU : PySem.W.keepIn K (.ref fNU) = true)
    (aRD : PySem.W.nsIn K mainGlobals "is_reading" = some (some (.ref fRD)))
    (lRD : K.lookup fRD = some ⟨ocRD, odRD, .func (PySem.W.fnOf "is_reading" "is_reading" (defArgs sRd) (defBody sRd) (defScope sRd) .none kVRD dcRD pmRD anRD cdRD ctRD), slRD⟩)
    (cRD : PySem.W.codeIn K cdRD "is_reading" = true)
    (kRD : PySem.W.keepIn K (.ref fRD) = true)
    (aGE : PySem.W.nsIn K mainGlobals "is_range" = some (some (.ref fGE)))
    (lGE : K.lookup fGE = some ⟨ocGE, odGE, .func (PySem.W.fnOf "is_range" "is_range" (defArgs sRg) (defBody sRg) (defScope sRg) .none kVGE dcGE pmGE anGE cdGE ctGE), slGE⟩)
    (cGE : PySem.W.codeIn K cdGE "is_range" = true)
    (kGE : PySem.W.keepIn K (.ref fGE) = true)
    (aAL : PySem.W.nsIn K mainGlobals "are_left" = some (some (.ref fAL)))
    (lAL : K.lookup fAL = some ⟨ocAL, odAL, .func (PySem.W.fnOf "are_left" "are_left" (defArgs sAl) (defBody sAl) (defScope sAl) .none kVAL dcAL pmAL anAL cdAL ctAL), slAL⟩)
    (cAL : PySem.W.codeIn K cdAL "are_left" = true)
    (kAL : PySem.W.keepIn K (.ref fAL) = true)
    (aOU : PySem.W.nsIn K mainGlobals "cycles_outside" = some (some (.ref fOU)))
    (lOU : K.lookup fOU = some ⟨ocOU, odOU, .func (PySem.W.fnOf "cycles_outside" "cycles_outside" (defArgs sCO2) (defBody sCO2) (defScope sCO2) .none kVOU dcOU pmOU anOU cdOU ctOU), slOU⟩)
    (cOU : PySem.W.codeIn K cdOU "cycles_outside" = true)
    (kOU : PySem.W.keepIn K (.ref fOU) = true)
    (aIS : PySem.W.nsIn K mainGlobals "is_rest" = some (some (.ref fIS)))
    (lIS : K.lookup fIS = some ⟨ocIS, odIS, .func (PySem.W.fnOf "is_rest" "is_rest" (defArgs sIR2) (defBody sIR2) (defScope sIR2) .none kVIS dcIS pmIS anIS cdIS ctIS), slIS⟩)
    (cIS : PySem.W.codeIn K cdIS "is_rest" = true)
    (kIS : PySem.W.keepIn K (.ref fIS) = true)
    (aIC : PySem.W.nsIn K mainGlobals "is_count" = some (some (.ref fIC)))
    (lIC : K.lookup fIC = some ⟨ocIC, odIC, .func (PySem.W.fnOf "is_count" "is_count" (defArgs sIC) (defBody sIC) (defScope sIC) .none kVIC dcIC pmIC anIC cdIC ctIC), slIC⟩)
    (cIC : PySem.W.codeIn K cdIC "is_count" = true)
    (kIC : PySem.W.keepIn K (.ref fIC) = true)
    (aFE : PySem.W.nsIn K mainGlobals "_law_feed" = some (some (.ref fFE)))
    (lFE : K.lookup fFE = some ⟨ocFE, odFE, .func (PySem.W.fnOf "_law_feed" "_law_feed" (defArgs sFeed) (defBody sFeed) (defScope sFeed) .none kVFE dcFE pmFE anFE cdFE ctFE), slFE⟩)
    (cFE : PySem.W.codeIn K cdFE "_law_feed" = true)
    (kFE : PySem.W.keepIn K (.ref fFE) = true)
    (aTA : PySem.W.nsIn K mainGlobals "_law_take" = some (some (.ref fTA)))
    (lTA : K.lookup fTA = some ⟨ocTA, odTA, .func (PySem.W.fnOf "_law_take" "_law_take" (defArgs sTake) (defBody sTake) (defScope sTake) .none kVTA dcTA pmTA anTA cdTA ctTA), slTA⟩)
    (cTA : PySem.W.codeIn K cdTA "_law_take" = true)
    (kTA : PySem.W.keepIn K (.ref fTA) = true)
    (aPI : PySem.W.nsIn K mainGlobals "_law_pick" = some (some (.ref fPI)))
    (lPI : K.lookup fPI = some ⟨ocPI, odPI, .func (PySem.W.fnOf "_law_pick" "_law_pick" (defArgs sPick) (defBody sPick) (defScope sPick) .none kVPI dcPI pmPI anPI cdPI ctPI), slPI⟩)
    (cPI : PySem.W.codeIn K cdPI "_law_pick" = true)
    (kPI : PySem.W.keepIn K (.ref fPI) = true)
    (aLD : PySem.W.nsIn K mainGlobals "_law_load" = some (some (.ref fLD)))
    (lLD : K.lookup fLD = some ⟨ocLD, odLD, .func (PySem.W.fnOf "_law_load" "_law_load" (defArgs M3L.sLd) (defBody M3L.sLd) (defScope M3L.sLd) .none kVLD dcLD pmLD anLD cdLD ctLD), slLD⟩)
    (cLD : PySem.W.codeIn K cdLD "_law_load" = true)
    (kLD : PySem.W.keepIn K (.ref fLD) = true)
    (aTN : PySem.W.nsIn K mainGlobals "_law_turns" = some (some (.ref fTN)))
    (lTN : K.lookup fTN = some ⟨ocTN, odTN, .func (PySem.W.fnOf "_law_turns" "_law_turns" (defArgs sTn) (defBody sTn) (defScope sTn) .none kVTN dcTN pmTN anTN cdTN ctTN), slTN⟩)
    (cTN : PySem.W.codeIn K cdTN "_law_turns" = true)
    (kTN : PySem.W.keepIn K (.ref fTN) = true)
    (aRN : PySem.W.nsIn K mainGlobals "_law_range" = some (some (.ref fRN)))
    (lRN : K.lookup fRN = some ⟨ocRN, odRN, .func (PySem.W.fnOf "_law_range" "_law_range" (defArgs sRn) (defBody sRn) (defScope sRn) .none kVRN dcRN pmRN anRN cdRN ctRN), slRN⟩)
    (cRN : PySem.W.codeIn K cdRN "_law_range" = true)
    (kRN : PySem.W.keepIn K (.ref fRN) = true)
    (aHS : PySem.W.nsIn K mainGlobals "_law_has" = some (some (.ref fHS)))
    (lHS : K.lookup fHS = some ⟨ocHS, odHS, .func (PySem.W.fnOf "_law_has" "_law_has" (defArgs sHs) (defBody sHs) (defScope sHs) .none kVHS dcHS pmHS anHS cdHS ctHS), slHS⟩)
    (cHS : PySem.W.codeIn K cdHS "_law_has" = true)
    (kHS : PySem.W.keepIn K (.ref fHS) = true)
    (aMY : PySem.W.nsIn K mainGlobals "_law_may_take" = some (some (.ref fMY)))
    (lMY : K.lookup fMY = some ⟨ocMY, odMY, .func (PySem.W.fnOf "_law_may_take" "_law_may_take" (defArgs sMy) (defBody sMy) (defScope sMy) .none kVMY dcMY pmMY anMY cdMY ctMY), slMY⟩)
    (cMY : PySem.W.codeIn K cdMY "_law_may_take" = true)
    (kMY : PySem.W.keepIn K (.ref fMY) = true)
    (aKT : PySem.W.nsIn K mainGlobals "_law_count" = some (some (.ref fKT)))
    (lKT : K.lookup fKT = some ⟨ocKT, odKT, .func (PySem.W.fnOf "_law_count" "_law_count" (defArgs sCt) (defBody sCt) (defScope sCt) .none kVKT dcKT pmKT anKT cdKT ctKT), slKT⟩)
    (cKT : PySem.W.codeIn K cdKT "_law_count" = true)
    (kKT : PySem.W.keepIn K (.ref fKT) = true)
    (aLR : PySem.W.nsIn K mainGlobals "_law_is_reading" = some (some (.ref fLR)))
    (lLR : K.lookup fLR = some ⟨ocLR, odLR, .func (PySem.W.fnOf "_law_is_reading" "_law_is_reading" (defArgs sLr) (defBody sLr) (defScope sLr) .none kVLR dcLR pmLR anLR cdLR ctLR), slLR⟩)
    (cLR : PySem.W.codeIn K cdLR "_law_is_reading" = true)
    (kLR : PySem.W.keepIn K (.ref fLR) = true)
    (aLS : PySem.W.nsIn K mainGlobals "_law_is_rest" = some (some (.ref fLS)))
    (lLS : K.lookup fLS = some ⟨ocLS, odLS, .func (PySem.W.fnOf "_law_is_rest" "_law_is_rest" (defArgs sLs) (defBody sLs) (defScope sLs) .none kVLS dcLS pmLS anLS cdLS ctLS), slLS⟩)
    (cLS : PySem.W.codeIn K cdLS "_law_is_rest" = true)
    (kLS : PySem.W.keepIn K (.ref fLS) = true)
    (aLC : PySem.W.nsIn K mainGlobals "_law_is_count" = some (some (.ref fLC)))
    (lLC : K.lookup fLC = some ⟨ocLC, odLC, .func (PySem.W.fnOf "_law_is_count" "_law_is_count" (defArgs sLc) (defBody sLc) (defScope sLc) .none kVLC dcLC pmLC anLC cdLC ctLC), slLC⟩)
    (cLC : PySem.W.codeIn K cdLC "_law_is_count" = true)
    (kLC : PySem.W.keepIn K (.ref fLC) = true)
    (aLO : PySem.W.nsIn K mainGlobals "_law_other" = some (some (.ref fLO)))
    (lLO : K.lookup fLO = some ⟨ocLO, odLO, .func (PySem.W.fnOf "_law_other" "_law_other" (defArgs sLo) (defBody sLo) (defScope sLo) .none kVLO dcLO pmLO anLO cdLO ctLO), slLO⟩)
    (cLO : PySem.W.codeIn K cdLO "_law_other" = true)
    (kLO : PySem.W.keepIn K (.ref fLO) = true)
    (agLIM : PySem.W.nsIn K mainGlobals "LIMIT" = some (some vgLIM))
    (rgLIM : RelV (.int 1000000000) vgLIM)
    (z1 : PySem.W.nsIn K mainGlobals "len" = some none)
    (z2 : PySem.W.nsIn K mainGlobals "max" = some none)
    (z3 : PySem.W.nsIn K mainGlobals "min" = some none)
    (z4 : PySem.W.nsIn K mainGlobals "abs" = some none)
    (z5 : PySem.W.nsIn K mainGlobals "range" = some none)
    (z6 : PySem.W.nsIn K mainGlobals "sorted" = some none)
    (z7 : PySem.W.nsIn K mainGlobals "tuple" = some none)
    (z8 : PySem.W.nsIn K mainGlobals "list" = some none)
    (z9 : PySem.W.nsIn K mainGlobals "int" = some none)
    (z10 : PySem.W.nsIn K mainGlobals "isinstance" = some none)
    (z11 : PySem.W.nsIn K mainGlobals "bool" = some none)
    (z12 : PySem.W.nsIn K mainGlobals "enumerate" = some none)
    (z13 : PySem.W.nsIn K mainGlobals "all" = some none)
    (z14 : PySem.W.nsIn K mainGlobals "repr" = some none)
    (aLAW : PySem.W.nsIn K mainGlobals "law" = some (some (.ref fLAW)))
    (lLAW : K.lookup fLAW = some ⟨ocLAW, odLAW, .func (PySem.W.fnOf "law" "law" (defArgs M3L.sLaw) (defBody M3L.sLaw) (defScope M3L.sLaw) .none kVLAW dcLAW pmLAW anLAW cdLAW ctLAW), slLAW⟩)
    (cLAW : PySem.W.codeIn K cdLAW "law" = true)
    (kLAW : PySem.W.keepIn K (.ref fLAW) = true) :
    ∃ fd : FuncData, (∀ (s : Shared) (v : Value), BindsTo s fd ⟨[v], []⟩ [("script", v)]) ∧ ∀ base : Heap, K.In base → base.Ns mainGlobals mg → KW.Kept l.prog w K mg base 8 fa fd ["script"] (M3L.spLaw K) := by
  have e := hfa.symm.trans (PySem.W.mg_of X G aLAW)
  cases e
  have FCO := fun_mk (st := sCont) lCO cCO kCO
  have bCO := FCO.binds (ps := ["outer", "inner"]) fun _ _ _ _ _ _ us hl => match us, hl with | [_, _], _ => rfl
  have FRG := fun_mk (st := sRng) lRG cRG kRG
  have bRG := FRG.binds (ps := ["one", "other"]) fun _ _ _ _ _ _ us hl => match us, hl with | [_, _], _ => rfl
  have FIL := fun_mk (st := sLO) lIL cIL kIL
  have bIL := FIL.binds (ps := ["points", "reading"]) fun _ _ _ _ _ _ us hl => match us, hl with | [_, _], _ => rfl
  have FBT := fun_mk (st := sBtw) lBT cBT kBT
  have bBT := FBT.binds (ps := ["reading", "before", "after"]) fun _ _ _ _ _ _ us hl => match us, hl with | [_, _, _], _ => rfl
  have FMT := fun_mk (st := sMT) lMT cMT kMT
  have bMT := FMT.binds (ps := ["points", "place"]) fun _ _ _ _ _ _ us hl => match us, hl with | [_, _], _ => rfl
  have FPB := fun_mk (st := sPB) lPB cPB kPB
  have bPB := FPB.binds (ps := ["rest", "reading"]) fun _ _ _ _ _ _ us hl => match us, hl with | [_, _], _ => rfl
  have FCN := fun_mk (st := sCo) lCN cCN kCN
  have bCN := FCN.binds (ps := ["load"]) fun _ _ _ _ _ _ us hl => match us, hl with | [_], _ => rfl
  have FNU := fun_mk (st := sNu) lNU cNU kNU
  have bNU := FNU.binds (ps := ["value"]) fun _ _ _ _ _ _ us hl => match us, hl with | [_], _ => rfl
  have FRD := fun_mk (st := sRd) lRD cRD kRD
  have bRD := FRD.binds (ps := ["value"]) fun _ _ _ _ _ _ us hl => match us, hl with | [_], _ => rfl
  have FGE := fun_mk (st := sRg) lGE cGE kGE
  have bGE := FGE.binds (ps := ["value"]) fun _ _ _ _ _ _ us hl => match us, hl with | [_], _ => rfl
  have FAL := fun_mk (st := sAl) lAL cAL kAL
  have bAL := FAL.binds (ps := ["points"]) fun _ _ _ _ _ _ us hl => match us, hl with | [_], _ => rfl
  have FOU := fun_mk (st := sCO2) lOU cOU kOU
  have bOU := FOU.binds (ps := ["cycles", "rest"]) fun _ _ _ _ _ _ us hl => match us, hl with | [_, _], _ => rfl
  have FIS := fun_mk (st := sIR2) lIS cIS kIS
  have bIS := FIS.binds (ps := ["value"]) fun _ _ _ _ _ _ us hl => match us, hl with | [_], _ => rfl
  have FIC := fun_mk (st := sIC) lIC cIC kIC
  have bIC := FIC.binds (ps := ["cycles", "rest"]) fun _ _ _ _ _ _ us hl => match us, hl with | [_, _], _ => rfl
  have FFE := fun_mk (st := sFeed) lFE cFE kFE
  have bFE := FFE.binds (ps := ["script", "index"]) fun _ _ _ _ _ _ us hl => match us, hl with | [_, _], _ => rfl
  have FTA := fun_mk (st := sTake) lTA cTA kTA
  have bTA := FTA.binds (ps := ["feed", "size"]) fun _ _ _ _ _ _ us hl => match us, hl with | [_, _], _ => rfl
  have FPI := fun_mk (st := sPick) lPI cPI kPI
  have bPI := FPI.binds (ps := ["feed", "options"]) fun _ _ _ _ _ _ us hl => match us, hl with | [_, _], _ => rfl
  have FLD := fun_mk (st := M3L.sLd) lLD cLD kLD
  have bLD := FLD.binds (ps := ["feed", "size", "most"]) fun _ _ _ _ _ _ us hl => match us, hl with | [_, _, _], _ => rfl
  have FTN := fun_mk (st := sTn) lTN cTN kTN
  have bTN := FTN.binds (ps := ["load"]) fun _ _ _ _ _ _ us hl => match us, hl with | [_], _ => rfl
  have FRN := fun_mk (st := sRn) lRN cRN kRN
  have bRN := FRN.binds (ps := ["first", "second"]) fun _ _ _ _ _ _ us hl => match us, hl with | [_, _], _ => rfl
  have FHS := fun_mk (st := sHs) lHS cHS kHS
  have bHS := FHS.binds (ps := ["outer", "inner"]) fun _ _ _ _ _ _ us hl => match us, hl with | [_, _], _ => rfl
  have FMY := fun_mk (st := sMy) lMY cMY kMY
  have bMY := FMY.binds (ps := ["points", "k"]) fun _ _ _ _ _ _ us hl => match us, hl with | [_, _], _ => rfl
  have FKT := fun_mk (st := sCt) lKT cKT kKT
  have bKT := FKT.binds (ps := ["load"]) fun _ _ _ _ _ _ us hl => match us, hl with | [_], _ => rfl
  have FLR := fun_mk (st := sLr) lLR cLR kLR
  have bLR := FLR.binds (ps := ["value"]) fun _ _ _ _ _ _ us hl => match us, hl with | [_], _ => rfl
  have FLS := fun_mk (st := sLs) lLS cLS kLS
  have bLS := FLS.binds (ps := ["value"]) fun _ _ _ _ _ _ us hl => match us, hl with | [_], _ => rfl
  have FLC := fun_mk (st := sLc) lLC cLC kLC
  have bLC := FLC.binds (ps := ["cycles", "rest"]) fun _ _ _ _ _ _ us hl => match us, hl with | [_, _], _ => rfl
  have FLO := fun_mk (st := sLo) lLO cLO kLO
  have bLO := FLO.binds (ps := ["feed", "found"]) fun _ _ _ _ _ _ us hl => match us, hl with | [_, _], _ => rfl
  have FLAW := fun_mk (st := M3L.sLaw) lLAW cLAW kLAW
  have T : M3L.Txt K mg fCO fRG fIL fBT fMT fPB fCN fNU fRD fGE fAL fOU fIS fIC fFE fTA fPI fLD fTN fRN fHS fMY fKT fLR fLS fLC fLO _ _ _ _ _ _ _ _ _ _ _ _ _ _ _ _ _ _ _ _ _ _ _ _ _ _ _ := ⟨FCO, PySem.W.mg_of X G aCO, kCO, bCO, FRG, PySem.W.mg_of X G aRG, kRG, bRG, FIL, PySem.W.mg_of X G aIL, kIL, bIL, FBT, PySem.W.mg_of X G aBT, kBT, bBT, FMT, PySem.W.mg_of X G aMT, kMT, bMT, FPB, PySem.W.mg_of X G aPB, kPB, bPB, FCN, PySem.W.mg_of X G aCN, kCN, bCN, FNU, PySem.W.mg_of X G aNU, kNU, bNU, FRD, PySem.W.mg_of X G aRD, kRD, bRD, FGE, PySem.W.mg_of X G aGE, kGE, bGE, FAL, PySem.W.mg_of X G aAL, kAL, bAL, FOU, PySem.W.mg_of X G aOU, kOU, bOU, FIS, PySem.W.mg_of X G aIS, kIS, bIS, FIC, PySem.W.mg_of X G aIC, kIC, bIC, FFE, PySem.W.mg_of X G aFE, kFE, bFE, FTA, PySem.W.mg_of X G aTA, kTA, bTA, FPI, PySem.W.mg_of X G aPI, kPI, bPI, FLD, PySem.W.mg_of X G aLD, kLD, bLD, FTN, PySem.W.mg_of X G aTN, kTN, bTN, FRN, PySem.W.mg_of X G aRN, kRN, bRN, FHS, PySem.W.mg_of X G aHS, kHS, bHS, FMY, PySem.W.mg_of X G aMY, kMY, bMY, FKT, PySem.W.mg_of X G aKT, kKT, bKT, FLR, PySem.W.mg_of X G aLR, kLR, bLR, FLS, PySem.W.mg_of X G aLS, kLS, bLS, FLC, PySem.W.mg_of X G aLC, kLC, bLC, FLO, PySem.W.mg_of X G aLO, kLO, bLO, ⟨_, PySem.W.mg_of X G agLIM, rgLIM⟩, PySem.W.mg_none_of X G z1, PySem.W.mg_none_of X G z2, PySem.W.mg_none_of X G z3, PySem.W.mg_none_of X G z4, PySem.W.mg_none_of X G z5, PySem.W.mg_none_of X G z6, PySem.W.mg_none_of X G z7, PySem.W.mg_none_of X G z8, PySem.W.mg_none_of X G z9, PySem.W.mg_none_of X G z10, PySem.W.mg_none_of X G z11, PySem.W.mg_none_of X G z12, PySem.W.mg_none_of X G z13, PySem.W.mg_none_of X G z14⟩
  exact ⟨PySem.W.fnOf "law" "law" (defArgs M3L.sLaw) (defBody M3L.sLaw) (defScope M3L.sLaw) .none kVLAW dcLAW pmLAW anLAW cdLAW ctLAW, fun s v => .of_eq rfl, fun base _ _ => M3L.ok_law FLAW T⟩
end M3E0
open PySem PySem.W PyProof.Rows
set_option maxRecDepth 100000 in
set_option maxHeartbeats 0 in
theorem PySem.Challenge.cw_wearswings_k30_what_is_a_count_holds : PySem.Challenge.rw_wearswings_k30_what_is_a_count.Holds := by
  w_on; o_law; k_head; (case hw => w_witness2)
  k_fill
  refine KW.walk_kept (l := PySem.Challenge.rw_wearswings_k30_what_is_a_count) (n := 63) (k := 8) (x := "script") (sp := M3L.spLaw) rfl (by decide) rfl ⟨rfl, by decide, by decide⟩ (fun w h Y => PySem.W.kIn_of Y) ?F (fun K H a ns hl _ hS => ⟨a, ns, rfl, hS, hl, fun _ => rfl⟩)
  case F =>
    intro w mg fa h KX G hmg
    refine' M3E0.all_mk KX G hmg ?aCO ?lCO ?cCO ?kCO ?aRG ?lRG ?cRG ?kRG ?aIL ?lIL ?cIL ?kIL ?aBT ?lBT ?cBT ?kBT ?aMT ?lMT ?cMT ?kMT ?aPB ?lPB ?cPB ?kPB ?aCN ?lCN ?cCN ?kCN ?aNU ?lNU ?cNU ?kNU ?aRD ?lRD ?cRD ?kRD ?aGE ?lGE ?cGE ?kGE ?aAL ?lAL ?cAL ?kAL ?aOU ?lOU ?cOU ?kOU ?aIS ?lIS ?cIS ?kIS ?aIC ?lIC ?cIC ?kIC ?aFE ?lFE ?cFE ?kFE ?aTA ?lTA ?cTA ?kTA ?aPI ?lPI ?cPI ?kPI ?aLD ?lLD ?cLD ?kLD ?aTN ?lTN ?cTN ?kTN ?aRN ?lRN ?cRN ?kRN ?aHS ?lHS ?cHS ?kHS ?aMY ?lMY ?cMY ?kMY ?aKT ?lKT ?cKT ?kKT ?aLR ?lLR ?cLR ?kLR ?aLS ?lLS ?cLS ?kLS ?aLC ?lLC ?cLC ?kLC ?aLO ?lLO ?cLO ?kLO ?agLIM ?rgLIM ?z1 ?z2 ?z3 ?z4 ?z5 ?z6 ?z7 ?z8 ?z9 ?z10 ?z11 ?z12 ?z13 ?z14 ?aLAW ?lLAW ?cLAW ?kLAW
    (case aCO => k_is)
    (case lCO => k_is)
    (case cCO => k_is)
    (case kCO => k_is)
    (case aRG => k_is)
    (case lRG => k_is)
    (case cRG => k_is)
    (case kRG => k_is)
    (case aIL => k_is)
    (case lIL => k_is)
    (case cIL => k_is)
    (case kIL => k_is)
    (case aBT => k_is)
    (case lBT => k_is)
    (case cBT => k_is)
    (case kBT => k_is)
    (case aMT => k_is)
    (case lMT => k_is)
    (case cMT => k_is)
    (case kMT => k_is)
    (case aPB => k_is)
    (case lPB => k_is)
    (case cPB => k_is)
    (case kPB => k_is)
    (case aCN => k_is)
    (case lCN => k_is)
    (case cCN => k_is)
    (case kCN => k_is)
    (case aNU => k_is)
    (case lNU => k_is)
    (case cNU => k_is)
    (case kNU => k_is)
    (case aRD => k_is)
    (case lRD => k_is)
    (case cRD => k_is)
    (case kRD => k_is)
    (case aGE => k_is)
    (case lGE => k_is)
    (case cGE => k_is)
    (case kGE => k_is)
    (case aAL => k_is)
    (case lAL => k_is)
    (case cAL => k_is)
    (case kAL => k_is)
    (case aOU => k_is)
    (case lOU => k_is)
    (case cOU => k_is)
    (case kOU => k_is)
    (case aIS => k_is)
    (case lIS => k_is)
    (case cIS => k_is)
    (case kIS => k_is)
    (case aIC => k_is)
    (case lIC => k_is)
    (case cIC => k_is)
    (case kIC => k_is)
    (case aFE => k_is)
    (case lFE => k_is)
    (case cFE => k_is)
    (case kFE => k_is)
    (case aTA => k_is)
    (case lTA => k_is)
    (case cTA => k_is)
    (case kTA => k_is)
    (case aPI => k_is)
    (case lPI => k_is)
    (case cPI => k_is)
    (case kPI => k_is)
    (case aLD => k_is)
    (case lLD => k_is)
    (case cLD => k_is)
    (case kLD => k_is)
    (case aTN => k_is)
    (case lTN => k_is)
    (case cTN => k_is)
    (case kTN => k_is)
    (case aRN => k_is)
    (case lRN => k_is)
    (case cRN => k_is)
    (case kRN => k_is)
    (case aHS => k_is)
    (case lHS => k_is)
    (case cHS => k_is)
    (case kHS => k_is)
    (case aMY => k_is)
    (case lMY => k_is)
    (case cMY => k_is)
    (case kMY => k_is)
    (case aKT => k_is)
    (case lKT => k_is)
    (case cKT => k_is)
    (case kKT => k_is)
    (case aLR => k_is)
    (case lLR => k_is)
    (case cLR => k_is)
    (case kLR => k_is)
    (case aLS => k_is)
    (case lLS => k_is)
    (case cLS => k_is)
    (case kLS => k_is)
    (case aLC => k_is)
    (case lLC => k_is)
    (case cLC => k_is)
    (case kLC => k_is)
    (case aLO => k_is)
    (case lLO => k_is)
    (case cLO => k_is)
    (case kLO => k_is)
    (case agLIM => k_is)
    (case rgLIM => exact ⟨_, rfl⟩)
    (case z1 => k_is)
    (case z2 => k_is)
    (case z3 => k_is)
    (case z4 => k_is)
    (case z5 => k_is)
    (case z6 => k_is)
    (case z7 => k_is)
    (case z8 => k_is)
    (case z9 => k_is)
    (case z10 => k_is)
    (case z11 => k_is)
    (case z12 => k_is)
    (case z13 => k_is)
    (case z14 => k_is)
    (case aLAW => k_is)
    (case lLAW => k_is)
    (case cLAW => k_is)
    (case kLAW => k_is)

