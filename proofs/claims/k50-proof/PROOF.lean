import PyProof.Rows.All
import Wide.All
import OpenK.AllK
import Wide.FinOn
import HandS.ForMost
import HandS.Flow
import HandS.OwnEq
import HandS.More
import HandS.DictComp
import HandS.List
import KE.KEqDict
import KE.KDictKeyed
import KE.KRevSl
import PyProof.InstNe
import HandS.IsInst
import HandS.SortRule
import HandS.Property
import HandS.ClsMeth
import HandS.Star
import HandS.Codes
import HandS.Strs
import HandS.SetFor
import HandS.RaiseMore
import HandS.Wide
import HandS.Style
import HandS.Walk
import HandS.Zip
import HandS.TupAny
import HandS.Conv
import KE.DataMinMax
import HandS.SortKw
import HandS.Comp
import HandS.Defaults
import HandS.FStr
import HandS.Text
import KE.KCallOwn
import HandS.StrMore
import HandS.NoneIn
import HandS.Deep
import HandS.Steps
import PySem.Challenge.RW_wearswings_k50_tables
set_option Elab.async false
set_option linter.all false
set_option maxRecDepth 100000
set_option maxHeartbeats 16000000
/-! del xs[-3:-1] of a list of at least three -/
namespace DS
open PySem PySem.Spec PyProof.Rows L2
def sel (start stop step : Int) (i : Nat) : Bool :=
  if step > 0 then start ≤ i && i < stop && (i - start) % step == 0 else stop < i && i ≤ start && (start - i) % (-step) == 0
theorem sel_iff (a c : Int) (i : Nat) : sel a c 1 i = decide (a ≤ i ∧ (i : Int) < c) := by
  unfold sel
  rw [if_pos (by decide)]
  have e : ((((i : Int) - a) % 1) == 0) = true := by rw [Int.emod_one]; rfl
  rw [e, Bool.and_true]
  by_cases h1 : a ≤ (i : Int) <;> by_cases h2 : (i : Int) < c <;> simp [h1, h2]
def cutOut (a c : Int) (xs : Array Value) : Array Value := (xs.toList.zipIdx.filterMap fun (x, k) => if sel a c 1 k then none else some x).toArray
theorem keep_all {a c : Int} : ∀ (l : List Value) (s : Nat), ((s + l.length : Nat) : Int) ≤ a → (l.zipIdx s).filterMap (fun (x, k) => if sel a c 1 k then none else some x) = l
  | [], _, _ => rfl
  | x :: l, s, h => by
    rw [List.zipIdx_cons, List.filterMap_cons]
    have e : sel a c 1 s = false := by rw [sel_iff]; exact decide_eq_false (by simp only [List.length_cons] at h; omega)
    have ih := keep_all (a := a) (c := c) l (s + 1) (by simp only [List.length_cons] at h; omega)
    simp only [e, Bool.false_eq_true, if_false]
    rw [ih]
theorem cut_three (pre : List Value) (x y z : Value) : cutOut ((pre.length : Nat) : Int) (((pre.length + 2 : Nat)) : Int) (pre ++ [x, y, z]).toArray = (pre ++ [z]).toArray := by
  unfold cutOut
  congr 1
  show ((pre ++ [x, y, z]).zipIdx.filterMap _) = _
  rw [List.zipIdx_append, List.filterMap_append, keep_all pre 0 (by omega)]
  congr 1
  have e1 : sel ((pre.length : Nat) : Int) (((pre.length + 2 : Nat)) : Int) 1 pre.length = true := by rw [sel_iff]; exact decide_eq_true (by omega)
  have e2 : sel ((pre.length : Nat) : Int) (((pre.length + 2 : Nat)) : Int) 1 (pre.length + 1) = true := by rw [sel_iff]; exact decide_eq_true (by omega)
  have e3 : sel ((pre.length : Nat) : Int) (((pre.length + 2 : Nat)) : Int) 1 (pre.length + 1 + 1) = false := by rw [sel_iff]; exact decide_eq_false (by omega)
  simp only [Nat.zero_add, List.zipIdx_cons, List.zipIdx_nil, List.filterMap_cons, List.filterMap_nil, e1, e2, e3, if_true, Bool.false_eq_true, if_false]
theorem bounds31 (n : Nat) : sliceBounds (some (-3)) (some (-1)) none (n + 3) = (((n : Nat) : Int), ((n + 2 : Nat) : Int), 1) := by
  simp only [sliceBounds, Option.getD_none]
  have h1 : (-3 : Int) < 0 := by decide
  have h2 : (-1 : Int) < 0 := by decide
  simp only [h1, h2, if_true, show (1 : Int) > 0 by decide]
  congr 1
  · omega
  · congr 1; omega
section
variable {prog : Program} {w : World} {A : Around} {E : Value → Shared → Prop} {s : Shared}
theorem del31 {l sl : Addr} {its : Array Value} {n : Nat} {vl vu : Value} {Q : Unit → Shared → Prop} (e : s.heap.get? l = some { cls := .type "list", data := .seq its n }) (hs : s.heap.IsSliceOf sl vl vu .none)
    (pl : IsPart vl (some (-3))) (pu : IsPart vu (some (-1))) (m : Nat) (hm : its.size = m + 3) (hz : its.size ≤ sizeLine)
    (h : Q () { s with heap := s.heap.update l (Obj.mapSeq (cutOut (m : Int) ((m + 2 : Nat) : Int))) }) : wpAny (model prog w) A (delItem (.ref l) (.ref sl)) Q E s := by
  have hl : s.heap.IsList l its := PySem.IsL.isList e
  obtain ⟨os, hos, hcs, hds⟩ := id hs
  have hT : s.TypeIs (.ref sl) "slice" := ⟨os, hos, hcs⟩
  have hst : ¬ ((rawPart none == rawInt 0) = true) := Bool.false_ne_true
  refine wpAny_delItem_slot hl.typeIs (by decide) F.slot_list_delitem (wpAny_call_entry F.slot_list_delitem hl.typeIs F.entry_list_delitem ?_ (F.args_list_delitem_2 _ _))
  unfold Builtin.«list.__delitem__»
  refine wpAny_bind (wpAny_of_eq (a := (Value.ref l, [Value.ref sl])) (by first | rfl | kernel_rfl) ?_)
  show wpAny _ _ (Builtin.List.listSubscript? (.ref sl) >>= _) _ _ s
  unfold Builtin.List.listSubscript?
  refine wpAny_bind (wpAny_bind (wpAny_specialOf hT slice_no_index ?_))
  simp only [Option.isNone_none, if_true]
  refine wpAny_pure ?_
  show wpAny _ _ (typeOf (.ref sl) >>= _) _ _ s
  refine wpAny_bind (wpAny_typeOf hT ?_)
  first
    | rw [if_neg (by decide)]
    | refine PySem.W.KFB.if_not (by decide) ?_
  rw [listSliceParts_eq]
  refine wpAny_bind (wpAny_bind (wpAny_field hos hds rfl (wpAny_bind (wpAny_listPart .none ?_))))
  rw [if_neg hst]
  refine wpAny_bind (wpAny_field hos hds rfl (wpAny_bind (wpAny_listPart pl ?_)))
  refine wpAny_bind (wpAny_field hos hds rfl (wpAny_bind (wpAny_listPart pu (wpAny_pure ?_))))
  unfold Builtin.List.listItems
  refine wpAny_bind (wpAny_bind (wpAny_seqItems e rfl (wpAny_pure ?_)))
  rw [hm]
  refine wpAny_bind (wpAny_of_eq ((sliceIndices_raw (some (-3)) (some (-1)) none (m + 3) (by simp)).trans (congrArg (pure : Int × Int × Int → Sem (Int × Int × Int)) (bounds31 m))) ?_)
  refine wpAny_bind (wpAny_rule ?_)
  have hz2 : (cutOut (m : Int) ((m + 2 : Nat) : Int) its).size ≤ sizeLine + 1 := by
    unfold cutOut
    rw [List.size_toArray]
    refine Nat.le_trans (List.length_filterMap_le _ _) ?_
    rw [List.length_zipIdx, Array.length_toList]
    omega
  show wpAny _ _ (updateSeq l (cutOut (m : Int) ((m + 2 : Nat) : Int)) >>= _) _ _ s
  refine wpAny_bind (wpAny_updateSeq (hz := hz) (_hz' := hz2) e rfl ?_)
  refine wpAny_bind (wpAny_letGo ?_)
  first
    | exact wpAny_pure ⟨.none, rfl, h⟩
    | exact wpAny_pure h
end
theorem split3 : ∀ {pre : List V} {x1 y1 z1 : V} {its : List Value}, Vals (pre ++ [x1, y1, z1]) its → ∃ ip i1 i2 i3, its = ip ++ [i1, i2, i3] ∧ Vals pre ip ∧ RelV x1 i1 ∧ RelV y1 i2 ∧ RelV z1 i3
  | [], _, _, _, _, .cons r1 (.cons r2 (.cons r3 .nil)) => ⟨[], _, _, _, rfl, .nil, r1, r2, r3⟩
  | _ :: pre, _, _, _, _, .cons r0 t => by
    obtain ⟨ip, i1, i2, i3, e, rp, h⟩ := split3 (pre := pre) t
    exact ⟨_ :: ip, i1, i2, i3, by rw [e]; rfl, .cons r0 rp, h⟩
section
variable {X : Cx}
/-- del xs[-3:-1] of a list of at least three -/
def tDel31 (to : TE) (tl th : TO) : TS := fun D σ H => to σ H fun x H1 => tl σ H1 fun l H2 => th σ H2 fun u H3 => l = some (-3) ∧ u = some (-1) ∧ ∃ (a : Addr) (pre : List V) (x1 y1 z1 : V), x = .ref a ∧ H3 a = some (.lst (pre ++ [x1, y1, z1])) ∧
  D.nx σ (upd H3 a (.lst (pre ++ [z1])))
theorem ps_del31 {o : Expr} {lo hi : Option Expr} {to : TE} {tl th : TO} {tpos p2 pos : Pos} (ho : PE X o to) (hl : PO X lo tl) (hu : PO X hi th) : PS X (.Delete [.Subscript o (.Slice lo hi none p2) tpos] pos) (tDel31 to tl th) := by
  refine ⟨fun pins s σ H D I h => ?_⟩
  refine wpAny_Delete (wpAny_deleteEach_cons (wpAny_delete_Subscript (thn (ho.run pins s σ H _ I h) fun u s1 ⟨x, H1, I1, rx, q1⟩ => ?_)))
  refine wpAny_Slice (thn (hl.run pins s1 σ H1 _ I1 q1) fun vl s2 ⟨l, H2, I2, pl, q2⟩ => thn (hu.run pins s2 σ H2 _ I2 q2) fun vu s3 ⟨w, H3, I3, pu, q3⟩ => ?_)
  rw [evalPart_none]
  refine wpAny_pure ?_
  obtain ⟨e1, e2, a, pre, x1, y1, z1, rfl, hH, q⟩ := q3
  subst e1 e2
  cases (show u = Value.ref a from rx)
  have I4 : Inv X pins σ H3 { s3 with heap := s3.heap.push { cls := .type "slice", data := .fields #[vl, vu, .none] } } := I3.kept (t' := s3.toks) fun b o e => Heap.get?_push_of_some _ e
  obtain ⟨z, its, n, r, hlen, e⟩ := I4.lstM hH
  have hn : its.length = pre.length + 3 := by rw [← hlen]; simp
  obtain ⟨ip, i1, i2, i3, ei, rp, r1, r2, r3⟩ : ∃ ip i1 i2 i3, its = ip ++ [i1, i2, i3] ∧ Vals pre ip ∧ RelV x1 i1 ∧ RelV y1 i2 ∧ RelV z1 i3 := split3 r
  subst ei
  have hp : ip.length = pre.length := rp.length.symm
  refine del31 e (Heap.IsSliceOf.new ..) pl pu pre.length (by rw [List.size_toArray]; exact hn) (by rw [List.size_toArray, ← hlen]; exact z) (wpAny_deleteEach_nil ⟨σ, _, I4.lset (ys := pre ++ [z1]) (its' := ip ++ [i3]) (t' := s3.toks) hH e ?_ (rp.append (.cons r3 .nil)) ?_, q⟩)
  · rw [← hp]
    exact cut_three ip i1 i2 i3
  · have := z
    simp only [List.length_append, List.length_cons, List.length_nil] at this ⊢
    omega
end
end DS

/-! set(xs) of a list of ints, with the order's ledger kept (for sorted behind it) -/
namespace KS
open PySem PySem.Spec PyProof.Rows L2
abbrev leer (w : World) : Obj := { cls := .type "set", dict := none, data := .set #[] 0 (.fresh 0 0 (!w.params.followText "set-order")) }
section
variable {P : Program} {w : World} {A : Around} {E : Value → Shared → Prop} {s : Shared}
/-- what stands behind set's own __init__ -/
abbrev Made (w : World) (s : Shared) (ns : List Int) (Q : Shared → Prop) : Prop :=
  ∀ (g : Heap) (tk c : Nat), SetR w g s.heap.objs.size (fun j => decide (j ∈ ns)) c → c ≤ ns.length → (∀ b o, s.heap.get? b = some o → g.get? b = some o) → Q { s with heap := g, toks := tk }
set_option maxHeartbeats 6400000 in
theorem set_lst {l : Addr} {its : Array Value} (ns : List Int) {Q : Value → Shared → Prop} (hh : A.handled = none) (hl : s.heap.IsList l its) (hit : IntsAre its.toList ns) (hb : ns.length + 1 < scanBound)
    (h : Made w s ns (Q (.ref s.heap.objs.size))) : wpAny (model P w) A (call (.type "set") [.ref l]) Q E s := by
  have hn : its.size = ns.length := by
    rw [← Array.length_toList]; exact IntsAre.length hit
  obtain ⟨c0, t0, hm⟩ := F.called_set.mro
  have k1 := F.called_set.made; have k2 := F.called_set.sub; have k3 := F.called_set.notType; have k4 := F.called_set.canCreate; have k5 := F.typeCall_set_1 (.ref l)
  refine wpAny_call (codeAny_of_tree (show wpAny _ _ (callAny (.type "set") _) _ _ _ from ?_))
  have uu : A.under (.builtin "type.__call__" ⟨[.type "set", .ref l], []⟩) = A.in1 := Around.under_plain (weight_type_call_type "set" [.ref l] []) rfl
  refine wpAny_pure ⟨Code.quiet_builtin _ (by decide +kernel), codeAny_builtin F.entry_type_call ?_⟩
  rw [show A.under (.builtin "type.__call__" { ({ pos := [Value.ref l] } : Args) with pos := .type "set" :: [Value.ref l] }) = A.in1 from uu]
  repeat (any_goals (first | assumption | wp_step))
  have hs0 : (s.heap.push (leer w)).get? s.heap.objs.size = some (leer w) := Heap.get?_push_size _ rfl
  refine codeAny_mono (code_set_led1 (.ref l) (E := E) (Q₁ := fun x s1 => x = .ref s.heap.objs.size ∧ s1 = { s with heap := s.heap.push (leer w) }) ⟨rfl, rfl⟩) fun r1 s1 e1 => ?_
  match r1, e1 with
  | .error _, e1 => exact e1
  | .ok (.next), e1 => exact e1.elim
  | .ok (.brk), e1 => exact e1.elim
  | .ok (.cont), e1 => exact e1.elim
  | .ok (.ret x), e1 =>
    obtain ⟨rfl, rfl⟩ := e1
    have hT : Shared.TypeIs { s with heap := s.heap.push (leer w) } (.ref s.heap.objs.size) "set" := ⟨_, hs0, rfl⟩
    have j1 := F.called_set.init.lookup; have j2 := F.called_set.init.bind (.ref s.heap.objs.size)
    repeat (any_goals (first | assumption | wp_step))
    refine codeAny_mono (codeAny_call_builtin (R := wants (fun v s2 => v = .none ∧ ∃ g tk c, s2 = { s with heap := g, toks := tk } ∧ SetR w g s.heap.objs.size (fun j => decide (j ∈ ns)) c ∧ c ≤ ns.length ∧ ∀ b o, s.heap.get? b = some o → g.get? b = some o) E)
      F.called_set.init.plain F.entry_set_init (check_set_init_1 hT ?_)) fun r2 s2 e2 => ?_
    · obtain ⟨ol, a1, a2, nl, a3⟩ := hl
      obtain ⟨xc, xd, xt, xs⟩ := ol
      simp only at a2 a3
      subst a2 a3
      have a4 : (s.heap.push (leer w)).get? l = some { cls := .type "list", dict := xd, data := .seq its nl, slots := xs } := Heap.get?_push_of_some _ a1
      have b1 := F.sub_list_set; have b2 := F.sub_list_frozenset; have b3 : (Value.type "list" == Value.type "dict") = false := by decide
      have a5 : (s.heap.push (leer w)).IsList l its := ⟨_, a4, rfl, nl, rfl⟩
      unfold Builtin.«set.__init__» noKeywords Builtin.Frozenset.updateFrom
      generalize hPI : pyIter = PI
      wp_walk
      subst hPI
      refine wpAny_pyIter_list a5 (wpAny_bind (wpAny_runValue ?_))
      have lt := Heap.lt_size a1
      have sz : (s.heap.push (leer w)).objs.size = s.heap.objs.size + 1 := Heap.size_push ..
      have d1 : l ≠ (s.heap.push (leer w)).objs.size := by rw [sz]; exact Nat.ne_of_lt (Nat.lt_succ_of_lt lt)
      have d2 : s.heap.objs.size ∉ [(s.heap.push (leer w)).objs.size, l] := by
        rw [sz]; intro z; rcases List.mem_cons.mp z with z | z
        · exact absurd z (Nat.ne_of_lt (Nat.lt_succ_self _))
        · exact absurd (List.mem_singleton.mp z) (Nat.ne_of_gt lt)
      have vl : ∀ i v, its[i]? = some v → ∃ (k : Int) (t : Tok), ns[i]? = some k ∧ v = Value.int k t := fun i v e => by
        have hi : i < ns.length := by rw [← hn]; exact (Array.getElem?_eq_some_iff.mp e).1
        obtain ⟨t, et⟩ := IntsAre.int_at hit i v (by rw [Array.getElem?_toList]; exact e)
        exact ⟨ns[i], t, List.getElem?_eq_getElem hi, by rw [et, List.getD_eq_getElem?_getD, List.getElem?_eq_getElem hi]; rfl⟩
      have hq : A.in1.in1.in1.handled = none := by simp [hh]
      refine set_update_ints ((Walks.list hq _ l d1 its).toS) s.heap.objs.size d2 ns hn hb vl (its.size - 0) 0 _ (by omega) (Nat.zero_le _) ⟨⟨_, Heap.get?_push_size _ rfl, rfl, rfl⟩, a5.push _⟩
        ⟨0, Nat.le_refl 0, setR_new_at (Heap.get?_push_of_some _ hs0)⟩ fun s3 c3 mv hc3 R3 => ?_
      obtain ⟨g3, gg, dd, tk3, oo⟩ := s3
      obtain rfl : gg = s.gens := mv.gens
      obtain rfl : dd = s.drawn := mv.drawn
      obtain rfl : oo = s.os := mv.os
      refine (show wpAny _ _ _ _ _ _ from wpAny_pure (show wpAny _ _ (ret Value.none) _ _ _ from wpAny_pure ⟨rfl, g3, tk3, c3, rfl, R3, by omega, fun b o e => ?_⟩))
      have hb0 := Heap.lt_size e
      exact mv.heap b o (by rw [sz]; intro z; rcases List.mem_cons.mp z with z | z
                            · exact absurd z (Nat.ne_of_lt hb0)
                            · exact absurd (List.mem_singleton.mp z) (Nat.ne_of_lt (Nat.lt_succ_of_lt hb0))) (Heap.get?_push_of_some _ (Heap.get?_push_of_some _ e))
    · match r2, e2 with
      | .error _, e2 => exact e2
      | .ok (.next), e2 => exact e2.elim
      | .ok (.brk), e2 => exact e2.elim
      | .ok (.cont), e2 => exact e2.elim
      | .ok (.ret y), e2 =>
        obtain ⟨rfl, g, tk, c, rfl, R2, hc, hk⟩ := e2
        repeat (any_goals (first | assumption | wp_step))
        exact h _ _ _ R2 hc hk
end
section
variable {X : Cx}
/-- set(xs) of a list of ints -/
def rSetL (w : World) (K : PySem.W.Frag) : List V → Hp → VK → Prop := fun vs H Q => ∃ (a : Addr) (ns : List Int), vs = [V.ref a] ∧ SqL K H a (ns.map V.int) ∧ ns.length ≤ 1000 ∧
  ∀ (p : Addr) (c : Nat), H p = none → c ≤ ns.length → Q (.ref p) (upd H p (SetO w p (fun j => decide (j ∈ ns)) c))
theorem cr_setL (hc : X.calm = true) : CallR X (.type "set") (rSetL X.w X.K) := by
  intro pins s σ H vs us Q I r h
  obtain ⟨a, ns, rfl, hS, hlen, q⟩ := h
  rw [Vals.ref1 r]
  obtain ⟨its, rv, pl, hz⟩ := I.list hS
  refine set_lst ns (I.ok.hd hc) pl.isList (by simpa using ints_of_vals rv) (by unfold scanBound; omega) fun g tk c R hcn k => ?_
  exact ⟨.ref _, _, I.laid (t' := tk) k (Nat.le_refl _) (setO_new R), rfl, q _ c (I.hok.fresh (Nat.le_refl _)) hcn⟩
end
end KS

/-! repr(xs) of a list of ints; a law's def whose body knows that no repr is under way -/
namespace KG
open PySem PySem.Spec PyProof.Rows L2
/-! ### the text of a list of ints -/
def datL (ns : List Int) : PyData := .list (ns.map PyData.int)
def reprL (ns : List Int) : Str := (datL ns).shown
theorem small_log {i : Int} {k : Nat} (h0 : 0 < k) (h : i.natAbs < 2 ^ k) : i.natAbs.log2 < k := PySem.Flt.log2_lt_of h0 h
theorem show_all : ∀ (ns : List Int), (∀ n ∈ ns, n.natAbs < 2 ^ 40) → PyData.showableAll (ns.map PyData.int) = true
  | [], _ => rfl
  | a :: r, h => by
    have h1 : a.natAbs.log2 < 1920 := Nat.lt_of_lt_of_le (small_log (by decide) (h a List.mem_cons_self)) (by decide)
    have h2 := show_all r fun n hn => h n (List.mem_cons_of_mem _ hn)
    simp only [List.map_cons, PyData.showableAll, PyData.showable, h2, h1, decide_true, Bool.and_self]
theorem nodict_all : ∀ (ns : List Int), PyData.hasDictAll (ns.map PyData.int) = false
  | [] => rfl
  | a :: r => by simp only [List.map_cons, PyData.hasDictAll, PyData.hasDict, nodict_all r, Bool.or_self]
theorem depth_all : ∀ (ns : List Int), PyData.depthAll (ns.map PyData.int) ≤ 1
  | [] => Nat.zero_le _
  | a :: r => by
    have := depth_all r
    simp only [List.map_cons, PyData.depthAll, PyData.depth]
    omega
theorem leaves_all : ∀ (ns : List Int), (∀ n ∈ ns, n.natAbs < 10 ^ 12) → PyData.leavesShortAll 13 (ns.map PyData.int) = true
  | [], _ => rfl
  | a :: r, h => by
    have h2 := leaves_all r fun n hn => h n (List.mem_cons_of_mem _ hn)
    have h1 : (PyData.shown (.int a)).length ≤ 13 := by
      have := PySem.int_text_length_le10 (a := a) (k := 12) (by decide) (h a List.mem_cons_self)
      have e : (PyData.shown (.int a)).length = (toString a).length := by
        simp only [PyData.shown]
        exact PySem.ofString_length _
      omega
    simp only [List.map_cons, PyData.leavesShortAll, PyData.leavesShort, h2, Bool.and_true, decide_eq_true_eq]
    exact h1
theorem weight_all : ∀ (ns : List Int), (∀ n ∈ ns, n.natAbs < 2 ^ 39) → PyData.weightAll (ns.map PyData.int) ≤ 60 * ns.length
  | [], _ => Nat.le_refl _
  | a :: r, h => by
    have h1 := weight_all r fun n hn => h n (List.mem_cons_of_mem _ hn)
    have h2 : a.natAbs.log2 < 39 := small_log (by decide) (h a List.mem_cons_self)
    simp only [List.map_cons, PyData.weightAll, PyData.weight, List.length_cons]
    split <;> omega
theorem repr_fits {ns : List Int} (h : ∀ n ∈ ns, n.natAbs < 2 ^ 39) (hl : ns.length ≤ 2000) : (reprL ns).length ≤ sizeLine := by
  refine PyData.shown_fits (B := 13) (by decide) (by decide) ?_ ?_
  · show PyData.leavesShort 13 (.list _) = true
    simp only [PyData.leavesShort, leaves_all ns fun n hn => Nat.lt_trans (h n hn) (by decide)]
  · show PyData.weight (.list _) ≤ _
    have := weight_all ns h
    simp only [PyData.weight]
    omega
theorem reads_all {h : Heap} : ∀ {us : List Value} {ns : List Int}, IntsAre us ns → ReadsAll h us (ns.map PyData.int) []
  | _, _, .nil => .nil
  | _, _, .cons n t r => by
    have z := ReadsAll.cons (Reads.int (h := h) n t) (reads_all r)
    exact z
section
variable {X : Cx}
/-- repr(xs) of a list of ints, while no repr is under way -/
def rReprL (K : PySem.W.Frag) : List V → Hp → VK → Prop := fun vs H Q => ∃ (a : Addr) (ns : List Int), vs = [V.ref a] ∧ SqL K H a (ns.map V.int) ∧ (∀ n ∈ ns, n.natAbs < 2 ^ 39) ∧ ns.length ≤ 2000 ∧ Q (.str (reprL ns)) H
theorem cr_reprL (hg : X.A.guards = some []) (hu : X.A.units + 100 < cLine) : CallR X (.builtin "repr") (rReprL X.K) := by
  intro pins s σ H vs us Q I r h
  obtain ⟨a, ns, rfl, hS, hb, hl, q⟩ := h
  rw [Vals.ref1 r]
  obtain ⟨its, rv, ⟨o, n, ho, hc, hdn, hd⟩, hz⟩ := I.list hS
  have rd : Reads s.heap (.ref a) (datL ns) [a] := .list ho hc hd (reads_all (by simpa using ints_of_vals rv))
  refine repr_of_reads' rd (by show PyData.showable (.list _) = true; simp only [PyData.showable]; exact show_all ns fun m hm => Nat.lt_trans (hb m hm) (by decide)) (PyData.noDict_hsm (by show PyData.hasDict (.list _) = false; simp only [PyData.hasDict]; exact nodict_all ns)) hg
    (by have := depth_all ns; show X.A.units + (PyData.depth (.list _) + 1) < cLine; simp only [PyData.depth]; omega) (fun _ _ e => e) (fun g u tk k => ?_) (repr_fits hb hl)
  exact ⟨.str (reprL ns), H, I.kept k, ⟨u, rfl⟩, q⟩
end
end KG

/-! the def of the law itself, called where no repr is under way -/
namespace KW
open PySem PySem.Spec PyProof.Rows L2
/-- the def at f keeps sp where it is called with no repr under way -/
def Kept (P : Program) (w : World) (K : PySem.W.Frag) (mg : Str → Option Value) (base : Heap) (k : Nat) (f : Addr) (fd : FuncData) (ps : List Str) (sp : Sp) : Prop :=
  ∀ (A : Around) (outer : List Env) (s : Shared) (H : Hp) (args : Args) (us : List Value) (vs : List V) (Q : VK) (E : XK), A.guards = some [] → Room k A → Env0 P w K mg base A outer s H →
    BindsTo s fd args (ps.zip us) → Vals vs us → sp vs H Q E → codeAny (model P w) A (.call (.ref f) args) (CR CX0 outer P w H s Q E) s
section
variable {P : Program} {w : World} {K : PySem.W.Frag} {mg : Str → Option Value} {base : Heap}
theorem kept_of {x qual : Str} {st : Stmt} {f : Addr} {fd : FuncData} {N ps : List Str} {k : Nat} {sp : Sp} (F : Fun K x qual st f fd) (S : FnScope N ps (defScope st)) (len : ∀ vs H Q E, sp vs H Q E → vs.length = ps.length)
    (hb : ∀ (cdv : Value) (A : Around) (outer : List Env) (s : Shared) (H : Hp) (vs : List V) (Q : VK) (E : XK), A.guards = some [] → Room k (A.deeper (envOfC qual (defScope st) s.heap.objs.size f cdv)) → sp vs H Q E →
      ∃ t, PSs (cxOf CX0 P w K mg base N qual (defScope st) f cdv A outer s H E).nox (defBody st) t ∧ t { nx := fun _ H' => Q .non H', rt := Q } (start N vs) H) : Kept P w K mg base (k + 1) f fd ps sp := by
  obtain ⟨oc, od, kV, doc, pm, an, cdv, ct, osl, e1, lk, hcd⟩ := F.ex
  subst e1
  intro A outer s H args us vs Q E hg hr e0 bnd r hsp
  obtain ⟨t, d, q⟩ := hb cdv A outer s H vs Q E hg (hr.deeper _) hsp
  have lv := len _ _ _ _ hsp
  have kin : K.In s.heap := e0.mod.kin.keeps fun b o e => (e0.bs b o e).1
  have kd : ∀ y ∈ ps.zip us, (defScope st).names.lookup y.1 = some .local ∨ ((defScope st).names.lookup y.1 = some .cell ∧ ((cellsFrom (s.heap.objs.size + 1) (defScope st).names []).lookup y.1).isSome = true) := by
    rintro ⟨n, v⟩ hy
    exact (S.par n (List.of_mem_zip hy).1).imp id fun z => ⟨z, PySem.W.cellsFrom_some _ _ _ (.inl z)⟩
  refine codeAny_call_function hr.depth (kin _ _ lk) rfl S.co S.gen rfl (PySem.W.codeRec_of kin hcd) (bnd _ _ _ _ (wpAny_newFunctionEnv_cells S.kind kd fun env he s1 x1 => ?_))
  subst he
  refine ⟨(e0.mod.nolimit.keeps fun b o e => (e0.bs b o e).1).keeps x1.toInCall.keep, codeAny_func (wpAny_mono (d.nox.run [] s1 (start N vs) H _ (inv_start S hr.hd e0 lv r x1) q) (fun fl s2 z => ?_) fun _ _ z => z)⟩
  match fl, z with
  | .ret u, ⟨v, σ2, H2, J, rv, q2⟩ => exact ⟨v, H2, J.os, J.bare, J.base, J.hok, rv, q2⟩
  | .next, ⟨σ2, H2, J, q2⟩ => exact ⟨V.non, H2, J.os, J.bare, J.base, J.hok, rfl, q2⟩
  | .brk, ⟨_, _, _, q2⟩ => exact q2.elim
  | .cont, ⟨_, _, _, q2⟩ => exact q2.elim
/-- the heap that tracks the script alone, or nothing where it is the text's own -/
def hpOf (K : PySem.W.Frag) (a : Addr) (o : Obj) (xs : List V) : Hp := fun b => if b = a ∧ K.lookup a = none then some (.frz o (.lst xs)) else none
theorem hpOf_some {K : PySem.W.Frag} {a b : Addr} {o : Obj} {xs : List V} {u : HO} (e : hpOf K a o xs b = some u) : b = a ∧ K.lookup a = none ∧ u = .frz o (.lst xs) := by
  unfold hpOf at e
  split at e
  · rename_i z
    exact ⟨z.1, z.2, (Option.some.inj e).symm⟩
  · cases e
theorem run_law {mb : Str → Option Value} {k : Nat} {fa a : Addr} {fd : FuncData} {x : Str} {sp : Sp} {s1 : Shared} {vs : List Value} {ns : List Int}
    (kin : K.In s1.heap) (h1 : s1.heap.Ns mainGlobals mg) (h2 : s1.heap.Ns builtinsNs mb) (h3 : ∀ y : Str, y ≠ "__name__" → mb y = bootBuiltins y) (h4 : s1.heap.NoLimit) (h5 : s1.gens = #[])
    (ha : s1.heap.get? a = some { cls := .type "list", data := .seq vs.toArray }) (hi : IntsAre vs ns) (hl : ns.length ≤ sizeLine) (hr : Room k callerA)
    (F : ∀ bs : Heap, K.In bs → bs.Ns mainGlobals mg → Kept P w K mg bs k fa fd [x] sp) (hbd : ∀ (s : Shared) (u : Value), BindsTo s fd ⟨[u], []⟩ [(x, u)])
    (hsp : ∀ H : Hp, Only H → SqL K H a (ns.map V.int) → sp [.ref a] H (fun v _ => v = .bl true) fun _ _ _ => False) :
    codeAny (model P w) callerA (.call (.ref fa) ⟨[.ref a], []⟩) (fun r s' => r = .ok (.ret (.bool true)) ∧ OldK s1.heap s'.heap ∧ s'.os = s1.os ∧ AllBare s'.gens) s1 := by
  have rv := vals_ints hi
  let ob : Obj := { cls := .type "list", data := .seq vs.toArray }
  generalize hH : hpOf K a ob (ns.map V.int) = H
  have hsome : ∀ {b u}, H b = some u → b = a ∧ K.lookup a = none ∧ u = .frz ob (.lst (ns.map V.int)) := fun {b u} e => hpOf_some (by rw [hH]; exact e)
  have hO : Only H := fun b => by
    cases e : H b with
    | none => exact .inl rfl
    | some u => exact .inr ⟨_, _, by rw [(hsome e).2.2]⟩
  have hS : SqL K H a (ns.map V.int) := by
    cases e : K.lookup a with
    | none => exact .inl (.inr ⟨ob, by rw [← hH]; exact if_pos ⟨rfl, e⟩⟩)
    | some o =>
      have e2 := kin a o e
      rw [ha] at e2
      cases e2
      exact .inr ⟨_, vs.toArray, _, e, rfl, rfl, rfl, by rw [List.size_toArray, hi.length]; exact hl, by simpa using rv⟩
  have hok : HOk P w H s1.heap := fun b u e => by
    obtain ⟨rfl, _, rfl⟩ := hsome e
    exact ⟨ha, by rw [List.length_map]; exact hl, vs, _, rv, ha⟩
  have free : ∀ {b : Addr} {o : Obj} {es : Array DictEntry} {ep : Nat}, s1.heap.get? b = some o → o.data = .dict es ep → H b = none := fun {b o es ep} e d => by
    cases z : H b with
    | none => rfl
    | some u =>
      obtain ⟨rfl, _, _⟩ := hsome z
      rw [ha] at e
      cases e
      cases d
  have toB : ∀ {b : Addr} {m : Str → Option Value}, s1.heap.Ns b m → (hidT s1.heap H).Ns b m := fun {b m} ⟨o, es, ep, e, d, r⟩ => ⟨o, es, ep, hidT_get e (free e d), d, r⟩
  have kB : K.In (hidT s1.heap H) := fun b o e => hidT_get (kin b o e) (by
    cases z : H b with
    | none => rfl
    | some u =>
      obtain ⟨rfl, z2, _⟩ := hsome z
      rw [z2] at e
      cases e)
  obtain ⟨mc, m1, m2⟩ := h4
  have e0 : Env0 P w K mg (hidT s1.heap H) callerA [] s1 H := ⟨rfl, ⟨kB, toB h1, ⟨mb, toB h2, h3⟩, ⟨mc, toB m1, m2⟩⟩, fun b o e => of_hidT e, Nat.le_of_eq (hidT_size _ _), trivial, fun b hb => (List.not_mem_nil (show b ∈ ([] : List Addr) from hb)).elim, hok, .of_eq h5⟩
  refine codeAny_mono (F _ kB (toB h1) callerA [] s1 H ⟨[.ref a], []⟩ [.ref a] [.ref a] _ _ rfl hr e0 (hbd s1 (.ref a)) (.cons rfl .nil) (hsp H hO hS)) fun r s2 z => ?_
  match r, z with
  | .error _, z => exact z.elim
  | .ok .next, z => exact z.elim
  | .ok .brk, z => exact z.elim
  | .ok .cont, z => exact z.elim
  | .ok (.ret u), ⟨v, H2, os, bare, un, hok2, rr, q⟩ =>
    have q2 : v = .bl true := q
    subst q2
    obtain rfl : u = Value.bool true := rr
    refine ⟨rfl, OldK.of_keep fun b o e => ?_, os, bare⟩
    cases z : H b with
    | none => exact un.keep b o e z (fun m => (List.not_mem_nil (show b ∈ ([] : List Addr) from m)).elim) (by simp)
    | some u =>
      obtain ⟨_, _, rfl⟩ := hsome z
      have t1 := (hok b _ z).1
      have t2 := (hok2 b _ (un.frzs b ob _ z)).1
      rw [e] at t1
      rw [t2, ← t1]
/-- the end: the law's promise over the written part alone -/
theorem walk_kept {l : PySem.W.OpenLaw} {n k : Nat} {q : Program} {loose : List Str} {XP : (Str → Option Value) → Heap → Prop} {YP : World → Heap → Prop} {d : DefRec} {KK : Params → PySem.W.Frag} {sp : PySem.W.Frag → Sp} {x : Str}
    (hn : l.most = some n) (hn2 : n ≤ sizeLine) (hdf : d.params.defaults = []) (hr : Room k callerA) (hY : ∀ (w : World) (h : Heap), YP w h → (KK w.params).In h)
    (F : ∀ (w : World) (mg : Str → Option Value) (fa : Addr) (h : Heap), (KK w.params).In h → h.Ns mainGlobals mg → mg d.name = some (.ref fa) →
      ∃ fd : FuncData, (∀ (s : Shared) (u : Value), BindsTo s fd ⟨[u], []⟩ [(x, u)]) ∧ ∀ bs : Heap, (KK w.params).In bs → bs.Ns mainGlobals mg → Kept l.prog w (KK w.params) mg bs k fa fd [x] (sp (KK w.params)))
    (hsp : ∀ (K : PySem.W.Frag) (H : Hp) (a : Addr) (ns : List Int), ns.length ≤ n → Only H → SqL K H a (ns.map V.int) → sp K [.ref a] H (fun v _ => v = .bl true) fun _ _ _ => False) :
    PySem.W.WalkO q loose XP YP l.row.toRowW d [] (fun f vs => PySem.call f vs) := by
  refine Att.attach_call hn hdf fun w s0 s1 mg mb fa o pm cd doc a vs ns G Y ho hd hcd hmg hobj hints hlen hg => ?_
  obtain ⟨fd, hb, hF⟩ := F w mg fa _ (hY w _ Y) G.T.g hmg
  exact run_law (hY w _ Y) G.T.g G.T.b G.T.builtins G.T.nolimit hg hobj hints (Nat.le_trans hlen hn2) hr hF hb fun H hO hS => hsp (KK w.params) H a ns hlen hO hS
end
end KW

/-! turning points, as mathematics: the stack's way and the law's way -/
namespace PM
/-- r lies between its neighbours b and a -/
abbrev Btw (r b a : Int) : Prop := (b < r ∧ r < a) ∨ (a < r ∧ r < b)
/-- the stack's way from b, a (a on top) on -/
def tq : Int → Int → List Int → List Int
  | _, a, [] => [a]
  | b, a, r :: l => if a = r then tq b a l else if Btw a b r then tq b r l else a :: tq a r l
def ts : Int → List Int → List Int
  | a, [] => [a]
  | a, r :: l => if a = r then ts a l else a :: tq a r l
def tp : List Int → List Int
  | [] => []
  | x :: l => ts x l
/-- repeated readings once -/
def ddf : Int → List Int → List Int
  | _, [] => []
  | p, x :: l => if x = p then ddf p l else x :: ddf x l
def dd : List Int → List Int
  | [] => []
  | x :: l => x :: ddf x l
/-- the law's way, over readings that differ from their neighbours -/
def lq : Int → Int → List Int → List Int
  | _, c, [] => [c]
  | p, c, d :: l => if (decide (c > p) = decide (c > d)) then c :: lq c d l else lq c d l
def lp : List Int → List Int
  | [] => []
  | [x] => [x]
  | x :: y :: l => x :: lq x y l
theorem tq_lq : ∀ (l : List Int) (b p a : Int), a ≠ b → a ≠ p → (a > b ↔ a > p) → tq b a l = lq p a (ddf a l)
  | [], _, _, _, _, _, _ => rfl
  | r :: l, b, p, a, h1, h2, h3 => by
    simp only [tq, ddf]
    by_cases e : a = r
    · rw [if_pos e, if_pos e.symm]
      exact tq_lq l b p a h1 h2 h3
    · rw [if_neg e, if_neg (show ¬ r = a from fun z => e z.symm)]
      simp only [lq]
      by_cases bt : Btw a b r
      · rw [if_pos bt]
        have hk : ¬ (decide (a > p) = decide (a > r)) := by
          intro z
          rw [decide_eq_decide] at z
          omega
        rw [if_neg hk]
        exact tq_lq l b a r (by omega) (fun z => e z.symm) (by omega)
      · rw [if_neg bt]
        have hk : decide (a > p) = decide (a > r) := by
          rw [decide_eq_decide]
          omega
        rw [if_pos hk]
        rw [tq_lq l a a r (fun z => e z.symm) (fun z => e z.symm) Iff.rfl]
theorem ts_lp : ∀ (l : List Int) (a : Int), ts a l = lp (a :: ddf a l)
  | [], _ => rfl
  | r :: l, a => by
    simp only [ts, ddf]
    by_cases e : a = r
    · rw [if_pos e, if_pos e.symm]
      exact ts_lp l a
    · rw [if_neg e, if_neg (show ¬ r = a from fun z => e z.symm)]
      rw [tq_lq l a a r (fun z => e z.symm) (fun z => e z.symm) Iff.rfl]
      rfl
theorem tp_lp (ns : List Int) : tp ns = lp (dd ns) := by
  cases ns with
  | nil => rfl
  | cons a l => exact ts_lp l a
/-- what the stack leaves, goes through the stack as it is -/
theorem tq_again : ∀ (l : List Int) (b a : Int), a ≠ b → ∃ x s, tq b a l = x :: s ∧ x ≠ b ∧ (x > b ↔ a > b) ∧ tq b x s = x :: s
  | [], b, a, h => ⟨a, [], rfl, h, Iff.rfl, rfl⟩
  | r :: l, b, a, h => by
    simp only [tq]
    by_cases e : a = r
    · rw [if_pos e]
      exact tq_again l b a h
    · rw [if_neg e]
      by_cases bt : Btw a b r
      · rw [if_pos bt]
        obtain ⟨x, s, h1, h2, h3, h4⟩ := tq_again l b r (by omega)
        exact ⟨x, s, h1, h2, by omega, h4⟩
      · rw [if_neg bt]
        obtain ⟨y, s, h1, h2, h3, h4⟩ := tq_again l a r (fun z => e z.symm)
        refine ⟨a, y :: s, by rw [h1], h, Iff.rfl, ?_⟩
        simp only [tq]
        have n1 : ¬ Btw a b y := by
          intro z
          have h6 : r > a ↔ y > a := h3.symm
          omega
        rw [if_neg (fun z : a = y => h2 z.symm), if_neg n1, h4]
theorem ts_again : ∀ (l : List Int) (a : Int), tp (ts a l) = ts a l
  | [], _ => rfl
  | r :: l, a => by
    simp only [ts]
    by_cases e : a = r
    · rw [if_pos e]
      exact ts_again l a
    · rw [if_neg e]
      obtain ⟨x, s, h1, h2, _, h4⟩ := tq_again l a r (fun z => e z.symm)
      rw [h1]
      show ts a (x :: s) = a :: x :: s
      simp only [ts]
      rw [if_neg (fun z : a = x => h2 z.symm), h4]
theorem tp_again (ns : List Int) : tp (tp ns) = tp ns := by
  cases ns with
  | nil => rfl
  | cons a l => exact ts_again l a
theorem tq_last : ∀ (l : List Int) (b a z : Int), (a :: l).getLast? = some z → tq b a (l ++ [z]) = tq b a l
  | [], b, a, z, h => by
    have e : a = z := Option.some.inj h
    subst e
    show tq b a [a] = [a]
    simp only [tq, if_true]
  | r :: l, b, a, z, h => by
    have h2 : (r :: l).getLast? = some z := by rw [List.getLast?_cons_cons] at h; exact h
    show tq b a (r :: (l ++ [z])) = tq b a (r :: l)
    simp only [tq]
    by_cases e : a = r
    · rw [if_pos e, if_pos e]
      subst e
      exact tq_last l b a z h2
    · rw [if_neg e, if_neg e, tq_last l b r z h2, tq_last l a r z h2]
theorem ts_last : ∀ (l : List Int) (a z : Int), (a :: l).getLast? = some z → ts a (l ++ [z]) = ts a l
  | [], a, z, h => by
    have e : a = z := Option.some.inj h
    subst e
    show ts a [a] = [a]
    simp only [ts, if_true]
  | r :: l, a, z, h => by
    have h2 : (r :: l).getLast? = some z := by rw [List.getLast?_cons_cons] at h; exact h
    show ts a (r :: (l ++ [z])) = ts a (r :: l)
    simp only [ts]
    by_cases e : a = r
    · rw [if_pos e, if_pos e]
      subst e
      exact ts_last l a z h2
    · rw [if_neg e, if_neg e, tq_last l a r z h2]
theorem tp_last (ns : List Int) (z : Int) (h : ns.getLast? = some z) : tp (ns ++ [z]) = tp ns := by
  cases ns with
  | nil => simp at h
  | cons a l => exact ts_last l a z h
/-- sizes and bounds -/
theorem tq_mem : ∀ (l : List Int) (b a x : Int), x ∈ tq b a l → x = a ∨ x ∈ l
  | [], _, _, x, h => .inl (List.mem_singleton.mp h)
  | r :: l, b, a, x, h => by
    simp only [tq] at h
    split at h
    · rcases tq_mem l b a x h with z | z
      · exact .inl z
      · exact .inr (List.mem_cons_of_mem _ z)
    · split at h
      · rcases tq_mem l b r x h with z | z
        · rw [z]; exact .inr List.mem_cons_self
        · exact .inr (List.mem_cons_of_mem _ z)
      · rcases List.mem_cons.mp h with z | z
        · exact .inl z
        · rcases tq_mem l a r x z with z | z
          · rw [z]; exact .inr List.mem_cons_self
          · exact .inr (List.mem_cons_of_mem _ z)
theorem tq_len : ∀ (l : List Int) (b a : Int), (tq b a l).length ≤ l.length + 1
  | [], _, _ => Nat.le_refl _
  | r :: l, b, a => by
    have h1 := tq_len l b a
    have h2 := tq_len l b r
    have h3 := tq_len l a r
    simp only [tq, List.length_cons]
    split
    · omega
    · split
      · omega
      · rw [List.length_cons]; omega
theorem ts_mem : ∀ (l : List Int) (a x : Int), x ∈ ts a l → x = a ∨ x ∈ l
  | [], _, x, h => .inl (List.mem_singleton.mp h)
  | r :: l, a, x, h => by
    simp only [ts] at h
    split at h
    · rcases ts_mem l a x h with z | z
      · exact .inl z
      · exact .inr (List.mem_cons_of_mem _ z)
    · rcases List.mem_cons.mp h with z | z
      · exact .inl z
      · rcases tq_mem l a r x z with z | z
        · rw [z]; exact .inr List.mem_cons_self
        · exact .inr (List.mem_cons_of_mem _ z)
theorem ts_len : ∀ (l : List Int) (a : Int), (ts a l).length ≤ l.length + 1
  | [], _ => Nat.le_refl _
  | r :: l, a => by
    have h1 := ts_len l a
    have h2 := tq_len l a r
    simp only [ts, List.length_cons]
    split
    · omega
    · rw [List.length_cons]; omega
theorem tp_mem {ns : List Int} {x : Int} (h : x ∈ tp ns) : x ∈ ns := by
  cases ns with
  | nil => exact h
  | cons a l =>
    rcases ts_mem l a x h with z | z
    · rw [z]; exact List.mem_cons_self
    · exact List.mem_cons_of_mem _ z
theorem tp_len (ns : List Int) : (tp ns).length ≤ ns.length := by
  cases ns with
  | nil => exact Nat.le_refl _
  | cons a l => exact ts_len l a
/-- the swings of turning points -/
def rg (a b : Int) : Int × Int := (if b < a then b else a, if b > a then b else a)
def sw : List Int → List (Int × Int)
  | x :: y :: l => rg x y :: sw (y :: l)
  | _ => []
theorem sw_len : ∀ ps : List Int, (sw ps).length = ps.length - 1
  | [] => rfl
  | [_] => rfl
  | x :: y :: l => by
    have := sw_len (y :: l)
    simp only [sw, List.length_cons] at this ⊢
    omega
theorem sw_take : ∀ (ps : List Int) (i : Nat) (x y : Int), ps[i]? = some x → ps[i + 1]? = some y → (sw ps).take (i + 1) = (sw ps).take i ++ [rg x y]
  | [], _, _, _, h, _ => by simp at h
  | [_], 0, _, _, _, h => by simp at h
  | [_], i + 1, _, _, h, _ => by simp at h
  | a :: b :: l, 0, x, y, h, h2 => by
    have e1 : a = x := Option.some.inj h
    have e2 : b = y := Option.some.inj h2
    subst e1 e2
    rfl
  | a :: b :: l, i + 1, x, y, h, h2 => by
    have ih := sw_take (b :: l) i x y h h2
    show rg a b :: (sw (b :: l)).take (i + 1) = rg a b :: (sw (b :: l)).take i ++ [rg x y]
    rw [ih]
    rfl
theorem sw_mem : ∀ (ps : List Int) (B : Nat), (∀ x ∈ ps, x.natAbs < B) → ∀ r ∈ sw ps, r.1.natAbs < B ∧ r.2.natAbs < B
  | [], _, _, r, h => by simp [sw] at h
  | [_], _, _, r, h => by simp [sw] at h
  | x :: y :: l, B, hb, r, h => by
    rcases List.mem_cons.mp (show r ∈ rg x y :: sw (y :: l) from h) with z | z
    · have h1 := hb x List.mem_cons_self
      have h2 := hb y (List.mem_cons_of_mem _ List.mem_cons_self)
      rw [z]
      unfold rg
      constructor <;> (dsimp only; split <;> assumption)
    · exact sw_mem (y :: l) B (fun x hx => hb x (List.mem_cons_of_mem _ hx)) r z
end PM

/-! points taken out, in any order: one count -/
namespace RM
open PM
/-- of four points in a row, the middle two may be taken out -/
abbrev Taken (a b c d : Int) : Prop := ((rg a b).1 ≤ (rg b c).1 ∧ (rg b c).2 ≤ (rg a b).2) ∧ ((rg c d).1 ≤ (rg b c).1 ∧ (rg b c).2 ≤ (rg c d).2)
/-- up and down by turns -/
def ZZ : List Int → Prop
  | x :: y :: z :: r => ((x < y ∧ z < y) ∨ (y < x ∧ y < z)) ∧ ZZ (y :: z :: r)
  | [x, y] => x ≠ y
  | _ => True
inductive Step : List Int → Int × Int → List Int → Prop
  | here {a b c d : Int} {post : List Int} : Taken a b c d → Step (a :: b :: c :: d :: post) (rg b c) (a :: d :: post)
  | there {x : Int} {p q : List Int} {cy : Int × Int} : Step p cy q → Step (x :: p) cy (x :: q)
theorem ZZ.tail {x : Int} : ∀ {p : List Int}, ZZ (x :: p) → ZZ p
  | [], _ => trivial
  | [_], _ => trivial
  | [y, z], h => by
    have h1 := h.1
    show y ≠ z
    omega
  | y :: z :: u :: r, h => h.2
theorem Step.head {x : Int} {p q : List Int} {cy : Int × Int} (h : Step (x :: p) cy q) : ∃ q', q = x :: q' := by
  cases h with
  | here _ => exact ⟨_, rfl⟩
  | there _ => exact ⟨_, rfl⟩
theorem Step.len {p q : List Int} {cy : Int × Int} (h : Step p cy q) : p.length = q.length + 2 := by
  induction h with
  | here _ => simp only [List.length_cons]
  | there _ ih => simp only [List.length_cons]; omega
theorem rg_up {a b : Int} (h : a < b) : rg a b = (a, b) := by unfold rg; rw [if_neg (by omega), if_pos (by omega)]
theorem rg_down {a b : Int} (h : b < a) : rg a b = (b, a) := by unfold rg; rw [if_pos h, if_neg (by omega)]
/-- among points that go up and down -/
theorem taken_iff {a b c d : Int} (h : ZZ (a :: b :: c :: d :: [])) : Taken a b c d ↔ (a < b ∧ c < b ∧ c < d ∧ a ≤ c ∧ b ≤ d) ∨ (b < a ∧ b < c ∧ d < c ∧ c ≤ a ∧ d ≤ b) := by
  have h1 := h.1
  have h2 := h.2.1
  unfold Taken
  rcases h1 with ⟨x, y⟩ | ⟨x, y⟩
  · have z : c < d := by omega
    rw [rg_up x, rg_down y, rg_up z]
    dsimp only
    omega
  · have z : d < c := by omega
    rw [rg_down x, rg_up y, rg_down z]
    dsimp only
    omega
theorem ZZ.four {a b c d : Int} {r : List Int} (h : ZZ (a :: b :: c :: d :: r)) : ZZ (a :: b :: c :: d :: []) := by
  refine ⟨h.1, h.2.1, ?_⟩
  have := h.2.1
  show c ≠ d
  omega
theorem zz_here {a b c d : Int} : ∀ {post : List Int}, ZZ (a :: b :: c :: d :: post) → Taken a b c d → ZZ (a :: d :: post)
  | [], h, t => by
    rcases (taken_iff h.four).mp t with z | z
    · show a ≠ d
      omega
    · show a ≠ d
      omega
  | e :: r, h, t => by
    have h3 := h.2.2.1
    refine ⟨?_, h.2.2.2⟩
    rcases (taken_iff h.four).mp t with z | z <;> omega
theorem zz_cons {x y : Int} {p : List Int} (h : ZZ (x :: y :: p)) : x ≠ y := by
  cases p with
  | nil => exact h
  | cons z r => have := h.1; omega
theorem ZZ.step {p q : List Int} {cy : Int × Int} (h : Step p cy q) : ZZ p → ZZ q := by
  induction h with
  | here t => exact fun z => zz_here z t
  | @there x p q cy h ih =>
    intro z
    have zq := ih z.tail
    cases h with
    | @here a b c d post t =>
      have z1 := z.1
      have ti := (taken_iff z.tail.four).mp t
      refine ⟨?_, zq⟩
      rcases ti with t | t <;> omega
    | @there y p' q' cy' h' =>
      cases q' with
      | nil =>
        have := h'.len
        exact zz_cons z
      | cons u v =>
        cases p' with
        | nil => have := h'.len; simp at this
        | cons u' v' =>
          obtain ⟨v'', e⟩ := h'.head
          have e1 : u = u' := (List.cons.inj e).1
          subst e1
          exact ⟨z.1, zq⟩
/-- two ways to go on meet again -/
theorem diamond {p p1 : List Int} {c1 : Int × Int} (h1 : Step p c1 p1) : ∀ {p2 : List Int} {c2 : Int × Int}, Step p c2 p2 → ZZ p → (c1 = c2 ∧ p1 = p2) ∨ ∃ p3, Step p1 c2 p3 ∧ Step p2 c1 p3 := by
  have key : ∀ {a b c d : Int} {post : List Int} {p2 : List Int} {c2 : Int × Int}, Taken a b c d → Step (b :: c :: d :: post) c2 p2 → ZZ (a :: b :: c :: d :: post) →
      (rg b c = c2 ∧ a :: d :: post = a :: p2) ∨ ∃ p3, Step (a :: d :: post) c2 p3 ∧ Step (a :: p2) (rg b c) p3 := by
    intro a b c d post p2 c2 t h z
    have t1 := (taken_iff z.four).mp t
    cases h with
    | @here _ _ _ e post' t2 =>
      have t3 := (taken_iff z.tail.four).mp t2
      have ebd : b = d := by omega
      subst ebd
      refine .inl ⟨?_, rfl⟩
      have z1 := z.1
      rcases z1 with ⟨x, y⟩ | ⟨x, y⟩
      · rw [rg_down y, rg_up y]
      · rw [rg_up y, rg_down y]
    | @there _ _ q2 _ h2 =>
      cases h2 with
      | @here _ _ e f post' t2 =>
        have t3 := (taken_iff z.tail.tail.four).mp t2
        have za : ZZ (a :: d :: e :: f :: post') := zz_here z t
        have zb : ZZ (a :: b :: c :: f :: post') := ZZ.step (.there (.there (.here t2))) z
        exact .inr ⟨a :: f :: post', .here ((taken_iff za.four).mpr (by omega)), .here ((taken_iff zb.four).mpr (by omega))⟩
      | @there _ _ q3 _ h3 =>
        obtain ⟨q4, rfl⟩ := h3.head
        exact .inr ⟨a :: d :: q4, .there h3, .here t⟩
  induction h1 with
  | @here a b c d post t =>
    intro p2 c2 h2 z
    cases h2 with
    | here _ => exact .inl ⟨rfl, rfl⟩
    | @there _ _ q2 _ h2 => exact key t h2 z
  | @there x p q cy h1 ih =>
    intro p2 c2 h2 z
    cases h2 with
    | @here a b c d post t =>
      rcases key t h1 z with ⟨e1, e2⟩ | ⟨p3, s1, s2⟩
      · exact .inl ⟨e1.symm, e2.symm⟩
      · exact .inr ⟨p3, s2, s1⟩
    | @there _ _ q2 _ h2 =>
      rcases ih h2 z.tail with ⟨e1, e2⟩ | ⟨p3, s1, s2⟩
      · exact .inl ⟨e1, by rw [e2]⟩
      · exact .inr ⟨x :: p3, .there s1, .there s2⟩
inductive Run : List Int → List (Int × Int) → List Int → Prop
  | nil (p : List Int) : Run p [] p
  | cons {p q r : List Int} {c : Int × Int} {cs : List (Int × Int)} : Step p c q → Run q cs r → Run p (c :: cs) r
/-- nothing can be taken out -/
def NF (p : List Int) : Prop := ∀ c q, ¬ Step p c q
theorem Run.snoc {p q r : List Int} {c : Int × Int} {cs : List (Int × Int)} (h : Run p cs q) (s : Step q c r) : Run p (cs ++ [c]) r := by
  induction h with
  | nil p => exact .cons s (.nil _)
  | cons h1 _ ih => exact .cons h1 (ih s)
theorem Run.zz {p q : List Int} {cs : List (Int × Int)} (h : Run p cs q) : ZZ p → ZZ q := by
  induction h with
  | nil p => exact id
  | cons h1 _ ih => exact fun z => ih (ZZ.step h1 z)
theorem Run.len {p q : List Int} {cs : List (Int × Int)} (h : Run p cs q) : p.length = q.length + 2 * cs.length := by
  induction h with
  | nil p => simp
  | cons h1 _ ih => have := h1.len; rw [List.length_cons]; omega
theorem ends : ∀ (n : Nat) (p : List Int), p.length ≤ n → ∃ cs r, Run p cs r ∧ NF r
  | 0, p, h => ⟨[], p, .nil p, fun c q s => by have := s.len; omega⟩
  | n + 1, p, h => by
    by_cases e : ∃ c q, Step p c q
    · obtain ⟨c, q, s⟩ := e
      have := s.len
      obtain ⟨cs, r, h1, h2⟩ := ends n q (by omega)
      exact ⟨c :: cs, r, .cons s h1, h2⟩
    · exact ⟨[], p, .nil p, fun c q s => e ⟨c, q, s⟩⟩
/-- in whatever order points are taken out, the same cycles and the same rest come out -/
theorem unique : ∀ (n : Nat) (p : List Int), p.length ≤ n → ZZ p → ∀ {cs ds : List (Int × Int)} {r s : List Int}, Run p cs r → NF r → Run p ds s → NF s → r = s ∧ cs.Perm ds := by
  intro n
  induction n with
  | zero =>
    intro p hp z cs ds r s h1 n1 h2 n2
    cases h1 with
    | nil _ => cases h2 with
      | nil _ => exact ⟨rfl, .nil⟩
      | cons s2 _ => exact absurd s2 (n1 _ _)
    | cons s1 _ => have := s1.len; omega
  | succ n ih =>
    intro p hp z cs ds r s h1 n1 h2 n2
    cases h1 with
    | nil _ => cases h2 with
      | nil _ => exact ⟨rfl, .nil⟩
      | cons s2 _ => exact absurd s2 (n1 _ _)
    | @cons _ q1 _ c1 cs' s1 r1 =>
      cases h2 with
      | nil _ => exact absurd s1 (n2 _ _)
      | @cons _ q2 _ c2 ds' s2 r2 =>
        have l1 := s1.len
        have l2 := s2.len
        rcases diamond s1 s2 z with ⟨e1, e2⟩ | ⟨p3, t1, t2⟩
        · subst e1 e2
          obtain ⟨e, pm⟩ := ih q1 (by omega) (ZZ.step s1 z) r1 n1 r2 n2
          exact ⟨e, pm.cons _⟩
        · obtain ⟨es, t, r3, n3⟩ := ends p3.length p3 (Nat.le_refl _)
          obtain ⟨e1, m1⟩ := ih q1 (by omega) (ZZ.step s1 z) r1 n1 (.cons t1 r3) n3
          obtain ⟨e2, m2⟩ := ih q2 (by omega) (ZZ.step s2 z) r2 n2 (.cons t2 r3) n3
          refine ⟨e1.trans e2.symm, ?_⟩
          exact ((m1.cons c1).trans (.swap c2 c1 es)).trans (m2.symm.cons c2)
theorem one_count {p : List Int} (z : ZZ p) {cs ds : List (Int × Int)} {r s : List Int} (h1 : Run p cs r) (n1 : NF r) (h2 : Run p ds s) (n2 : NF s) : r = s ∧ cs.Perm ds := unique p.length p (Nat.le_refl _) z h1 n1 h2 n2
/-! ### the stack's way -/
theorem Step.suffix {p q : List Int} {cy : Int × Int} (h : Step p cy q) (l : List Int) : Step (p ++ l) cy (q ++ l) := by
  induction h with
  | here t => exact .here t
  | there _ ih => exact .there ih
theorem Step.prefix {p q : List Int} {cy : Int × Int} (h : Step p cy q) : ∀ l : List Int, Step (l ++ p) cy (l ++ q)
  | [] => h
  | x :: l => .there (h.prefix l)
theorem step_last {p : List Int} {cy : Int × Int} {q : List Int} (h : Step p cy q) : ∀ {m : List Int} {x : Int}, p = m ++ [x] → (∃ q', Step m cy q' ∧ q = q' ++ [x]) ∨ ∃ pre a b c, p = pre ++ [a, b, c, x] ∧ Taken a b c x := by
  induction h with
  | @here a b c d post t =>
    intro m x e
    rcases List.eq_nil_or_concat post with rfl | ⟨post', y, rfl⟩
    · have e2 : [a, b, c] ++ [d] = m ++ [x] := e
      obtain ⟨_, e4⟩ := List.append_inj' e2 rfl
      have e5 : d = x := (List.cons.inj e4).1
      subst e5
      exact .inr ⟨[], a, b, c, rfl, t⟩
    · have e2 : (a :: b :: c :: d :: post') ++ [y] = m ++ [x] := by rw [← e]; simp
      obtain ⟨e3, e4⟩ := List.append_inj' e2 rfl
      have e5 : y = x := (List.cons.inj e4).1
      subst e5 e3
      exact .inl ⟨a :: d :: post', .here t, by simp⟩
  | @there y p q cy h ih =>
    intro m x e
    cases m with
    | nil =>
      have e2 : p = [] := (List.cons.inj e).2
      subst e2
      cases h
    | cons y' m' =>
      obtain ⟨e1, e2⟩ := List.cons.inj e
      subst e1
      rcases ih e2 with ⟨q', s, e3⟩ | ⟨pre, a, b, c, e3, t⟩
      · exact .inl ⟨y :: q', .there s, by rw [e3]; rfl⟩
      · exact .inr ⟨y :: pre, a, b, c, by rw [e3]; rfl, t⟩
theorem nf_push {m : List Int} {x : Int} (h : NF m) (n : ∀ pre a b c, m ++ [x] = pre ++ [a, b, c, x] → ¬ Taken a b c x) : NF (m ++ [x]) := by
  intro cy q s
  rcases step_last s rfl with ⟨q', s', _⟩ | ⟨pre, a, b, c, e, t⟩
  · exact h _ _ s'
  · exact n pre a b c e t
theorem nf_prefix {m l : List Int} (h : NF (m ++ l)) : NF m := fun cy q s => h _ _ (s.suffix l)
/-- turning points go up and down -/
theorem tq_zz : ∀ (l : List Int) (b a : Int), a ≠ b → ∃ x s, tq b a l = x :: s ∧ (x > b ↔ a > b) ∧ x ≠ b ∧ ZZ (b :: x :: s)
  | [], b, a, h => ⟨a, [], rfl, Iff.rfl, h, fun z => h z.symm⟩
  | r :: l, b, a, h => by
    simp only [tq]
    by_cases e : a = r
    · rw [if_pos e]
      exact tq_zz l b a h
    · rw [if_neg e]
      by_cases bt : Btw a b r
      · rw [if_pos bt]
        obtain ⟨x, s, h1, h2, h3, h4⟩ := tq_zz l b r (by omega)
        exact ⟨x, s, h1, by omega, h3, h4⟩
      · rw [if_neg bt]
        obtain ⟨y, s, h1, h2, h3, h4⟩ := tq_zz l a r (fun z => e z.symm)
        refine ⟨a, y :: s, by rw [h1], Iff.rfl, h, ?_, h4⟩
        have h5 : y > a ↔ r > a := h2
        omega
theorem ts_zz : ∀ (l : List Int) (a : Int), ZZ (ts a l)
  | [], _ => trivial
  | r :: l, a => by
    simp only [ts]
    by_cases e : a = r
    · rw [if_pos e]
      exact ts_zz l a
    · rw [if_neg e]
      obtain ⟨x, s, h1, _, _, h4⟩ := tq_zz l a r (fun z => e z.symm)
      rw [h1]
      exact h4
theorem tp_zz (ns : List Int) : ZZ (tp ns) := by
  cases ns with
  | nil => exact trivial
  | cons a l => exact ts_zz l a
end RM

/-! heaps; the texts of data; a walk over two tuples -/
namespace KA
open PySem PySem.Spec PyProof.Rows L2
theorem same_new {H : Hp} {p : Addr} {o : HO} (h : H p = none) : Same H (upd H p o) := fun b x e => by
  rw [upd_ne (ne_of_none e h)]
  exact e
theorem same_again {H0 H : Hp} {p : Addr} {o : HO} (h : H0 p = none) (s : Same H0 H) : Same H0 (upd H p o) := fun b x e => by
  rw [upd_ne (ne_of_none e h)]
  exact s b x e
theorem SqT_same {K : PySem.W.Frag} {H H' : Hp} {a : Addr} {xs : List V} (e : Same H H') (h : SqT K H a xs) : SqT K H' a xs := by
  rcases h with (h | ⟨o, h⟩) | h
  · exact .inl (.inl (e _ _ h))
  · exact .inl (.inr ⟨o, e _ _ h⟩)
  · exact .inr h
theorem int_at {ns : List Int} {i : Nat} {x : V} (h : (ns.map V.int)[i]? = some x) : ∃ r, ns[i]? = some r ∧ x = .int r := by
  rw [List.getElem?_map] at h
  cases e : ns[i]? with
  | none => rw [e] at h; cases h
  | some r => rw [e] at h; exact ⟨r, rfl, (Option.some.inj h).symm⟩
theorem small3000 {n : Nat} (h : n ≤ 3000) : n < sizeLine := Nat.lt_of_le_of_lt h (by decide)
theorem at_int {ns : List Int} {i : Nat} {r : Int} (h : ns[i]? = some r) : (ns.map V.int)[i]? = some (.int r) := by
  rw [List.getElem?_map, h]
  rfl
end KA
namespace KB
end KB
namespace PH
open PySem PySem.Spec PyProof.Rows L2 KA
/-- a list or a tuple of xs stands at a -/
def Sq (K : PySem.W.Frag) (H : Hp) (a : Addr) (xs : List V) : Prop := SqL K H a xs ∨ SqT K H a xs
theorem Sq.same {K : PySem.W.Frag} {H H' : Hp} {a : Addr} {xs : List V} (h : Sq K H a xs) (e : Same H H') : Sq K H' a xs := h.elim (fun z => .inl (e.seq z)) (fun z => .inr (SqT_same e z))
/-- pairs of ints stand at the refs of xs -/
def PairsAt (H : Hp) : List V → List (Int × Int) → Prop
  | [], [] => True
  | x :: xs, r :: rs => (∃ p, x = .ref p ∧ H p = some (.tup [.int r.1, .int r.2])) ∧ PairsAt H xs rs
  | _, _ => False
theorem PairsAt.same {H H' : Hp} (e : Same H H') : ∀ {xs : List V} {rs : List (Int × Int)}, PairsAt H xs rs → PairsAt H' xs rs
  | [], [], _ => trivial
  | x :: xs, r :: rs, ⟨⟨p, h1, h2⟩, h3⟩ => ⟨⟨p, h1, e _ _ h2⟩, PairsAt.same e h3⟩
  | [], _ :: _, h => h.elim
  | _ :: _, [], h => h.elim
theorem PairsAt.length {H : Hp} : ∀ {xs : List V} {rs : List (Int × Int)}, PairsAt H xs rs → xs.length = rs.length
  | [], [], _ => rfl
  | x :: xs, r :: rs, ⟨_, h3⟩ => by rw [List.length_cons, List.length_cons, PairsAt.length h3]
  | [], _ :: _, h => h.elim
  | _ :: _, [], h => h.elim
theorem PairsAt.append {H : Hp} : ∀ {xs ys : List V} {rs ss : List (Int × Int)}, PairsAt H xs rs → PairsAt H ys ss → PairsAt H (xs ++ ys) (rs ++ ss)
  | [], _, [], _, _, h => h
  | x :: xs, _, r :: rs, _, ⟨h1, h2⟩, h => ⟨h1, PairsAt.append h2 h⟩
  | [], _, _ :: _, _, h, _ => h.elim
  | _ :: _, _, [], _, h, _ => h.elim
theorem PairsAt.take {H : Hp} : ∀ {xs : List V} {rs : List (Int × Int)} (n : Nat), PairsAt H xs rs → PairsAt H (xs.take n) (rs.take n)
  | [], [], n, _ => by simp [PairsAt]
  | x :: xs, r :: rs, 0, _ => trivial
  | x :: xs, r :: rs, n + 1, ⟨h1, h2⟩ => ⟨h1, PairsAt.take n h2⟩
  | [], _ :: _, _, h => h.elim
  | _ :: _, [], _, h => h.elim
theorem PairsAt.get {H : Hp} : ∀ {xs : List V} {rs : List (Int × Int)} {i : Nat} {x : V}, PairsAt H xs rs → xs[i]? = some x → ∃ p a b, x = .ref p ∧ H p = some (.tup [.int a, .int b])
  | x :: xs, r :: rs, 0, y, ⟨⟨p, h1, h2⟩, _⟩, e => ⟨p, r.1, r.2, by rw [← h1]; exact (Option.some.inj e).symm, h2⟩
  | x :: xs, r :: rs, i + 1, y, ⟨_, h⟩, e => PairsAt.get h e
  | [], [], i, y, _, e => by simp at e
  | [], _ :: _, _, _, h, _ => h.elim
  | _ :: _, [], _, _, h, _ => h.elim
/-! ### data -/
def dInts (ns : List Int) : List PyData := ns.map PyData.int
def dPairs (rs : List (Int × Int)) : List PyData := rs.map fun r => .tuple [.int r.1, .int r.2]
theorem dp_ints {K : PySem.W.Frag} {H : Hp} : ∀ ns : List Int, DpAll K H (ns.map V.int) (dInts ns)
  | [] => .nil
  | n :: ns => .cons (.int n) (dp_ints ns)
theorem dp_pairs {K : PySem.W.Frag} {H : Hp} : ∀ {xs : List V} {rs : List (Int × Int)}, PairsAt H xs rs → DpAll K H xs (dPairs rs)
  | [], [], _ => .nil
  | x :: xs, r :: rs, ⟨⟨p, h1, h2⟩, h3⟩ => by
    subst h1
    exact .cons (.tup (SqT.of h2) (.cons (.int _) (.cons (.int _) .nil))) (dp_pairs h3)
  | [], _ :: _, h => h.elim
  | _ :: _, [], h => h.elim
theorem lay_ints : ∀ ns : List Int, PyData.canLayAll0 (dInts ns) = true
  | [] => rfl
  | n :: ns => by
    show (PyData.canLay0 (.int n) && PyData.canLayAll0 (dInts ns)) = true
    rw [lay_ints ns]
    simp only [PyData.canLay0, Bool.and_true]
theorem lay_pairs : ∀ rs : List (Int × Int), PyData.canLayAll0 (dPairs rs) = true
  | [] => rfl
  | r :: rs => by
    show (PyData.canLay0 (.tuple [.int r.1, .int r.2]) && PyData.canLayAll0 (dPairs rs)) = true
    rw [lay_pairs rs]
    simp only [PyData.canLay0, PyData.canLayAll0, Bool.and_true]
theorem depth_pairs : ∀ rs : List (Int × Int), PyData.depthAll (dPairs rs) ≤ 3
  | [] => Nat.zero_le _
  | r :: rs => by
    have h := depth_pairs rs
    show max (PyData.depth (.tuple [.int r.1, .int r.2])) (PyData.depthAll (dPairs rs)) ≤ 3
    simp only [PyData.depth, PyData.depthAll]
    omega
theorem shaped_of {d : PyData} (h1 : d.canLay0 = true) (h2 : d.depth ≤ 64) : SeqAt.shaped d = true := by
  unfold SeqAt.shaped
  rw [h1, decide_eq_true h2]
  rfl
theorem shaped_lst (ns : List Int) : SeqAt.shaped (.list (dInts ns)) = true :=
  shaped_of (by simp only [PyData.canLay0, lay_ints]) (by have := KG.depth_all ns; show PyData.depth (.list (ns.map PyData.int)) ≤ 64; simp only [PyData.depth]; omega)
theorem shaped_tup (ns : List Int) : SeqAt.shaped (.tuple (dInts ns)) = true :=
  shaped_of (by simp only [PyData.canLay0, lay_ints]) (by have := KG.depth_all ns; show PyData.depth (.tuple (ns.map PyData.int)) ≤ 64; simp only [PyData.depth]; omega)
theorem shaped_prs (rs : List (Int × Int)) : SeqAt.shaped (.list (dPairs rs)) = true :=
  shaped_of (by simp only [PyData.canLay0, lay_pairs]) (by have := depth_pairs rs; simp only [PyData.depth]; omega)
theorem eqv_same {d : PyData} (h : SeqAt.shaped d = true) : PyData.eqv d d = true := by
  refine SeqAt.eqv_refl d ?_
  unfold SeqAt.shaped at h
  rw [Bool.and_eq_true] at h
  exact h.1
/-- what repr asks of data -/
structure Nice (d : PyData) : Prop where
  show' : d.showable = true
  dict : d.hasDict = false
  depth : d.depth ≤ 10
  fits : d.shown.length ≤ sizeLine
theorem nice_lst {ns : List Int} (h : ∀ n ∈ ns, n.natAbs < 2 ^ 39) (hl : ns.length ≤ 2000) : Nice (.list (dInts ns)) :=
  ⟨by simp only [PyData.showable]; exact KG.show_all ns fun m hm => Nat.lt_trans (h m hm) (by decide), by simp only [PyData.hasDict]; exact KG.nodict_all ns,
    by have := KG.depth_all ns; show PyData.depth (.list (ns.map PyData.int)) ≤ 10; simp only [PyData.depth]; omega, KG.repr_fits h hl⟩
theorem nice_tup {ns : List Int} (h : ∀ n ∈ ns, n.natAbs < 2 ^ 39) (hl : ns.length ≤ 2000) : Nice (.tuple (dInts ns)) :=
  ⟨by simp only [PyData.showable]; exact KG.show_all ns fun m hm => Nat.lt_trans (h m hm) (by decide), by simp only [PyData.hasDict]; exact KG.nodict_all ns,
    by have := KG.depth_all ns; show PyData.depth (.tuple (ns.map PyData.int)) ≤ 10; simp only [PyData.depth]; omega, by
      refine PyData.shown_fits (B := 13) (by decide) (by decide) ?_ ?_
      · simp only [PyData.leavesShort]
        exact KG.leaves_all ns fun n hn => Nat.lt_trans (h n hn) (by decide)
      · have := KG.weight_all ns h
        show PyData.weight (.tuple (ns.map PyData.int)) ≤ _
        simp only [PyData.weight]
        omega⟩
theorem leaf_int {a : Int} (h : a.natAbs < 2 ^ 39) : PyData.leavesShort 13 (.int a) = true := by
  have := KG.leaves_all [a] fun n hn => by rw [List.mem_singleton.mp hn]; exact Nat.lt_trans h (by decide)
  simpa only [List.map_cons, List.map_nil, PyData.leavesShortAll, Bool.and_true] using this
theorem show_int {a : Int} (h : a.natAbs < 2 ^ 39) : PyData.showable (.int a) = true := by
  have := KG.show_all [a] fun n hn => by rw [List.mem_singleton.mp hn]; exact Nat.lt_trans h (by decide)
  simpa only [List.map_cons, List.map_nil, PyData.showableAll, Bool.and_true] using this
theorem weight_int {a : Int} (h : a.natAbs < 2 ^ 39) : PyData.weight (.int a) + 1 ≤ 60 := by
  have := KG.weight_all [a] fun n hn => by rw [List.mem_singleton.mp hn]; exact h
  simp only [List.map_cons, List.map_nil, PyData.weightAll, List.length_singleton] at this
  omega
theorem pairs_show : ∀ rs : List (Int × Int), (∀ r ∈ rs, r.1.natAbs < 2 ^ 39 ∧ r.2.natAbs < 2 ^ 39) → PyData.showableAll (dPairs rs) = true
  | [], _ => rfl
  | r :: rs, h => by
    have h1 := h r List.mem_cons_self
    show (PyData.showable (.tuple [.int r.1, .int r.2]) && PyData.showableAll (dPairs rs)) = true
    rw [pairs_show rs fun x hx => h x (List.mem_cons_of_mem _ hx)]
    have e1 := show_int h1.1
    have e2 := show_int h1.2
    simp only [PyData.showable, PyData.showableAll] at e1 e2 ⊢
    rw [e1, e2]
    rfl
theorem pairs_dict : ∀ rs : List (Int × Int), PyData.hasDictAll (dPairs rs) = false
  | [] => rfl
  | r :: rs => by
    show (PyData.hasDict (.tuple [.int r.1, .int r.2]) || PyData.hasDictAll (dPairs rs)) = false
    rw [pairs_dict rs]
    simp only [PyData.hasDict, PyData.hasDictAll, Bool.or_self]
theorem pairs_leaves : ∀ rs : List (Int × Int), (∀ r ∈ rs, r.1.natAbs < 2 ^ 39 ∧ r.2.natAbs < 2 ^ 39) → PyData.leavesShortAll 13 (dPairs rs) = true
  | [], _ => rfl
  | r :: rs, h => by
    have h1 := h r List.mem_cons_self
    show (PyData.leavesShort 13 (.tuple [.int r.1, .int r.2]) && PyData.leavesShortAll 13 (dPairs rs)) = true
    rw [pairs_leaves rs fun x hx => h x (List.mem_cons_of_mem _ hx)]
    have e : PyData.leavesShort 13 (.tuple [.int r.1, .int r.2]) = PyData.leavesShortAll 13 [.int r.1, .int r.2] := by simp only [PyData.leavesShort]
    have e' : PyData.leavesShortAll 13 [.int r.1, .int r.2] = (PyData.leavesShort 13 (.int r.1) && (PyData.leavesShort 13 (.int r.2) && true)) := by simp only [PyData.leavesShortAll]
    rw [e, e', leaf_int h1.1, leaf_int h1.2]
    rfl
theorem pairs_weight : ∀ rs : List (Int × Int), (∀ r ∈ rs, r.1.natAbs < 2 ^ 39 ∧ r.2.natAbs < 2 ^ 39) → PyData.weightAll (dPairs rs) ≤ 130 * rs.length
  | [], _ => Nat.le_refl _
  | r :: rs, h => by
    have h1 := h r List.mem_cons_self
    have h2 := pairs_weight rs fun x hx => h x (List.mem_cons_of_mem _ hx)
    have w1 := weight_int h1.1
    have w2 := weight_int h1.2
    have e : PyData.weightAll (dPairs (r :: rs)) = PyData.weight (.tuple [.int r.1, .int r.2]) + 1 + PyData.weightAll (dPairs rs) := by
      show PyData.weightAll (_ :: _) = _
      simp only [PyData.weightAll]
      rfl
    have e2 : PyData.weight (.tuple [.int r.1, .int r.2]) = PyData.weight (.int r.1) + 1 + (PyData.weight (.int r.2) + 1 + 0) := by simp only [PyData.weight, PyData.weightAll]
    rw [e, e2, List.length_cons]
    omega
theorem nice_prs {rs : List (Int × Int)} (h : ∀ r ∈ rs, r.1.natAbs < 2 ^ 39 ∧ r.2.natAbs < 2 ^ 39) (hl : rs.length ≤ 2000) : Nice (.list (dPairs rs)) :=
  ⟨by simp only [PyData.showable]; exact pairs_show rs h, by simp only [PyData.hasDict]; exact pairs_dict rs, by have := depth_pairs rs; simp only [PyData.depth]; omega, by
    refine PyData.shown_fits (B := 13) (by decide) (by decide) ?_ ?_
    · simp only [PyData.leavesShort]
      exact pairs_leaves rs h
    · have := pairs_weight rs h
      simp only [PyData.weight]
      omega⟩
section
variable {X : Cx}
/-- repr of data at an address, while no repr is under way -/
def rReprD (K : PySem.W.Frag) : List V → Hp → VK → Prop := fun vs H Q => ∃ (a : Addr) (d : PyData), vs = [V.ref a] ∧ Dp K H (.ref a) d ∧ Nice d ∧ Q (.str d.shown) H
theorem cr_reprD (hg : X.A.guards = some []) (hu : X.A.units + 100 < cLine) : CallR X (.builtin "repr") (rReprD X.K) := by
  intro pins s σ H vs us Q I r h
  obtain ⟨a, d, rfl, hd, nc, q⟩ := h
  rw [Vals.ref1 r]
  obtain ⟨as, rd⟩ := Dp.reads I d (.ref a) (.ref a) hd rfl
  refine repr_of_reads' rd nc.show' (PyData.noDict_hsm nc.dict) hg (by have := nc.depth; omega) (fun _ _ e => e) (fun g u tk k => ?_) nc.fits
  exact ⟨.str d.shown, H, I.kept k, ⟨u, rfl⟩, q⟩
theorem cr_reprB : CallR X (.builtin "repr") (fun vs H Q => ∃ b : Bool, vs = [V.bl b] ∧ Q (.str (if b = true then "True" else "False")) H) := by
  intro pins s σ H vs us Q I r h
  obtain ⟨b, rfl, q⟩ := h
  obtain ⟨u, rfl, ru⟩ := vals1 r
  cases ru
  exact PySem.P.repr_of_bool ⟨.str _, H, I.tok _, ⟨_, rfl⟩, q⟩
end
section
variable {K : PySem.W.Frag} {a b : Addr} {xs ys : List V}
theorem walk_tups {n : Nat} (hn : n = min xs.length ys.length) : Walk (RZ.ItzT K a b) n (fun H => SqT K H a xs ∧ SqT K H b ys) (YPair (fun i => xs[i]?) (fun i => ys[i]?)) := by
  refine ⟨fun i H hi q => ⟨xs, ys, xs[i]'(by omega), ys[i]'(by omega), q.1, q.2, List.getElem?_eq_getElem (by omega), List.getElem?_eq_getElem (by omega)⟩, fun H q => ⟨xs, ys, q.1, q.2, by omega⟩, fun i H v H' _ q y => ?_⟩
  obtain ⟨T, x, z, h1, h2, h3, h4, h5⟩ := y
  exact ⟨T, x, z, h1, h2, h3, h4 xs q.1, h5 ys q.2⟩
end
/-- two promises of one def -/
theorem both {P : Program} {w : World} {K : PySem.W.Frag} {mg : Str → Option Value} {base : Heap} {CX : CXT} {k : Nat} {f : Addr} {fd : FuncData} {ps : List Str} {sp sp' : Sp}
    (F : FnOk P w K mg base CX k f fd ps sp) (G : FnOk P w K mg base CX k f fd ps sp') : FnOk P w K mg base CX k f fd ps (fun vs H Q E => sp vs H Q E ∨ sp' vs H Q E) :=
  ⟨fun vs H Q E h => h.elim (F.len vs H Q E) (G.len vs H Q E), fun A outer s H args us vs Q E hr e0 hb r h => h.elim (F.run A outer s H args us vs Q E hr e0 hb r) (G.run A outer s H args us vs Q E hr e0 hb r)⟩
end PH

namespace KA
open PySem PySem.Spec PyProof.Rows L2
def topS (i : Nat) : Stmt := PySem.Challenge.pw_wearswings_k50_tables.main.body.getD i (.Pass ⟨0, 0, 0, 0⟩)
end KA
namespace KD
open PySem PySem.Spec PyProof.Rows L2 KA
abbrev sFeed : Stmt := topS 16
abbrev sTake : Stmt := topS 17
abbrev sPick : Stmt := topS 18
theorem scFeed : FnScope ["script", "k", "cell", "digits", "state"] ["script", "k"] (defScope sFeed) := ⟨rfl, rfl, rfl, by decide +kernel, rfl, by decide +kernel, by decide +kernel⟩
theorem scTake : FnScope ["feed", "many", "digit"] ["feed", "many"] (defScope sTake) := ⟨rfl, rfl, rfl, by decide +kernel, rfl, by decide +kernel, by decide +kernel⟩
theorem scPick : FnScope ["feed", "some"] ["feed", "some"] (defScope sPick) := ⟨rfl, rfl, rfl, by decide +kernel, rfl, by decide +kernel, by decide +kernel⟩
/-- a feed stands at p -/
def FeedAt (H : Hp) (p : Addr) : Prop := ∃ d st : Int, 0 ≤ d ∧ 0 ≤ st ∧ st < 2305843009213693951 ∧ H p = some (.lst [.int d, .int st])
/-- all that was tracked is as it was, but what stands at f -/
def Ch (f : Addr) (H H' : Hp) : Prop := ∀ b o, b ≠ f → H b = some o → H' b = some o
theorem Ch.refl (f : Addr) (H : Hp) : Ch f H H := fun _ _ _ e => e
theorem Ch.trans {f : Addr} {H H1 H2 : Hp} (a : Ch f H H1) (b : Ch f H1 H2) : Ch f H H2 := fun c o n e => b c o n (a c o n e)
theorem Ch.of_same {f : Addr} {H H' : Hp} (s : Same H H') : Ch f H H' := fun c o _ e => s c o e
theorem Ch.put {f : Addr} {H : Hp} {o : HO} : Ch f H (upd H f o) := fun b x n e => by rw [upd_ne n]; exact e
theorem Ch.new {f p : Addr} {H : Hp} {o : HO} (h : H p = none) : Ch f H (upd H p o) := .of_same (same_new h)
theorem Ch.again {f p : Addr} {H0 H : Hp} {o : HO} (h : H0 p = none) (c : Ch f H0 H) : Ch f H0 (upd H p o) := fun b x n e => by
  rw [upd_ne (ne_of_none e h)]
  exact c b x n e
theorem Ch.free {f p : Addr} {H H' : Hp} (c : Ch f H H') (n : p ≠ f) (h : H' p = none) : H p = none := by
  cases e : H p with
  | none => rfl
  | some o =>
    rw [c p o n e] at h
    cases h
theorem Ch.seq {K : PySem.W.Frag} {f : Addr} {H H' : Hp} {a : Addr} {xs : List V} (c : Ch f H H') (n : a ≠ f) (h : SqL K H a xs) : SqL K H' a xs := by
  rcases h with (h | ⟨o, h⟩) | h
  · exact .inl (.inl (c _ _ n h))
  · exact .inl (.inr ⟨o, c _ _ n h⟩)
  · exact .inr h
/-- what stood ahead of the feed is as it was -/
theorem Ch.old {f : Addr} {H0 H H' : Hp} (c : Ch f H H') (hf : H0 f = none) (s : Same H0 H) : Same H0 H' := fun b o e => c b o (ne_of_none e hf) (s b o e)
theorem FeedAt.ne {H : Hp} {f p : Addr} (h : FeedAt H f) (n : H p = none) : p ≠ f := by
  obtain ⟨d, st, _, _, _, e⟩ := h
  exact fun z => by rw [z, e] at n; cases n
theorem FeedAt.upd {H : Hp} {f p : Addr} {o : HO} (h : FeedAt H f) (n : p ≠ f) : FeedAt (upd H p o) f := by
  obtain ⟨d, st, h1, h2, h3, e⟩ := h
  exact ⟨d, st, h1, h2, h3, by rw [upd_ne n.symm]; exact e⟩
theorem FeedAt.same {H H' : Hp} {f : Addr} (h : FeedAt H f) (s : Same H H') : FeedAt H' f := by
  obtain ⟨d, st, h1, h2, h3, e⟩ := h
  exact ⟨d, st, h1, h2, h3, s _ _ e⟩
section
variable {P : Program} {w : World} {K : PySem.W.Frag} {mg : Str → Option Value} {base : Heap}
def spFeed (K : PySem.W.Frag) : Sp := fun vs H Q _ => ∃ (a : Addr) (ns : List Int) (k : Int), vs = [.ref a, .int k] ∧ SqL K H a (ns.map V.int) ∧ 0 ≤ k ∧ k ≤ 100 ∧
  ∀ H' p, Same H H' → H p = none → FeedAt H' p → Q (.ref p) H'
theorem ok_feed {f : Addr} {fd : FuncData} {k : Nat} (F : Fun K "_law_feed" "_law_feed" sFeed f fd) (ml : mg "len" = none) (mm : mg "max" = none) (ma : mg "abs" = none) : FnOk P w K mg base CX0 (k + 1) f fd ["script", "k"] (spFeed K) := by
  refine F.ok scFeed (fun vs H Q E h => ?_) (fun cdv A outer s H vs Q E hr h => ?_)
  · obtain ⟨a, ns, z, rfl, _⟩ := h
    rfl
  · obtain ⟨a, ns, z, rfl, hS, h0, h1, q⟩ := h
    refine ⟨_, pss_cons (ps_set (i := 2) scFeed.nd rfl (.inl rfl) (pe_ifExp (pt_cmpR op_lt (pv 1) (pe_callB call_len_seq (by rfl) ml PySem.boot_len (pa_cons (pv 0) pa_nil)) (nomark _)) (pe_ix ix_list (pv 0) (pv 1) (fun _ _ => rfl)) (pe_op op_add (pe_op op_mul pe_int (pv 1)) pe_int)))
      (pss_cons (ps_set (i := 3) scFeed.nd rfl (.inl rfl) (pe_callB (call_max2 rfl) (by rfl) mm (by decide +kernel) (pa_cons pe_int (pa_cons (pe_op op_sub (pe_callB call_abs (by rfl) ma (by decide +kernel) (pa_cons (pv 2) pa_nil)) (pe_op op_pow pe_int pe_int)) pa_nil))))
      (pss_cons (ps_set (i := 4) scFeed.nd rfl (.inl rfl) (pe_op op_mod (pe_op op_add (pe_op op_add (pe_op op_mul (pv 2) pe_int) (pe_op op_mul pe_int (pv 1))) pe_int) pe_int))
      (pss_one (ps_ret (pe_lst (pa_cons (pv 3) (pa_cons (pv 4) pa_nil))))))), ?_⟩
    refine ⟨.int z, rfl, .ref a, rfl, a, ns.map V.int, rfl, .inl hS, z, _, rfl, rfl, _, rfl, ite2 (fun e => ?_) (fun e => ?_)⟩
    · have hz : z < ((ns.map V.int).length : Nat) := of_decide_eq_true e
      rw [List.length_map] at hz
      obtain ⟨j, rfl⟩ : ∃ j : Nat, z = (j : Int) := ⟨z.toNat, by omega⟩
      have hj : j < ns.length := by omega
      have gj : (ns.map V.int)[j]? = some (.int ns[j]) := by rw [List.getElem?_map, List.getElem?_eq_getElem hj]; rfl
      refine ⟨.ref a, rfl, .int j, rfl, a, _, _, _, rfl, rfl, hS, atI_nat gj, ?_⟩
      refine ⟨_, rfl, _, rfl, 10, 18, rfl, rfl, ⟨by decide, by decide, by decide⟩, _, _, rfl, rfl, 0, _, rfl, ?_⟩
      refine ⟨_, rfl, _, _, rfl, rfl, .inr ⟨by decide, by decide⟩, .int _, rfl, 7919, _, rfl, rfl, .inl ⟨by decide, by decide⟩, _, _, rfl, rfl, _, _, rfl, rfl, _, _, rfl, rfl, by show (0 : Int) < 2305843009213693951; decide, ?_⟩
      refine ⟨_, rfl, _, rfl, by show 2 ≤ sizeLine; decide, fun p np => q _ p (same_new np) np ⟨_, _, ?_, Int.emod_nonneg _ (by decide), Int.emod_lt_of_pos _ (by decide), upd_same⟩⟩
      split <;> omega
    · refine ⟨.int z, rfl, 83, z, rfl, rfl, .inl ⟨by decide, by decide⟩, _, _, rfl, rfl, ?_⟩
      refine ⟨_, rfl, _, rfl, 10, 18, rfl, rfl, ⟨by decide, by decide, by decide⟩, _, _, rfl, rfl, 0, _, rfl, ?_⟩
      refine ⟨_, rfl, _, _, rfl, rfl, .inr ⟨by decide, by decide⟩, .int _, rfl, 7919, _, rfl, rfl, .inl ⟨by decide, by decide⟩, _, _, rfl, rfl, _, _, rfl, rfl, _, _, rfl, rfl, by show (0 : Int) < 2305843009213693951; decide, ?_⟩
      refine ⟨_, rfl, _, rfl, by show 2 ≤ sizeLine; decide, fun p np => q _ p (same_new np) np ⟨_, _, ?_, Int.emod_nonneg _ (by decide), Int.emod_lt_of_pos _ (by decide), upd_same⟩⟩
      split <;> omega
def spTake : Sp := fun vs H Q _ => ∃ (f : Addr) (m : Int), vs = [.ref f, .int m] ∧ 0 < m ∧ m < 2 ^ 64 ∧ FeedAt H f ∧ ∀ H' r, Ch f H H' → FeedAt H' f → 0 ≤ r → r < m → Q (.int r) H'
theorem ok_take {f : Addr} {fd : FuncData} {k : Nat} (F : Fun K "_law_take" "_law_take" sTake f fd) : FnOk P w K mg base CX0 (k + 1) f fd ["feed", "many"] spTake := by
  refine F.ok scTake (fun vs H Q E h => ?_) (fun cdv A outer s H vs Q E hr h => ?_)
  · obtain ⟨a, m, rfl, _⟩ := h
    rfl
  · obtain ⟨f, m, rfl, m0, m1, ⟨d, st, d0, t0, t1, hf⟩, q⟩ := h
    refine ⟨_, pss_cons (ps_if (pt_cmpR op_gt (pe_ix ix_list (pv 0) pe_int (fun _ _ => rfl)) pe_int (nomark _))
        (pss_cons (ps_set (i := 2) scTake.nd rfl (.inl rfl) (pe_op op_mod (pe_ix ix_list (pv 0) pe_int (fun _ _ => rfl)) (pv 1)))
          (pss_cons (ps_asg (pe_op op_fdivW (pe_ix ix_list (pv 0) pe_int (fun _ _ => rfl)) (pv 1)) (pg_sub (pv 0) pe_int set_list)) (pss_one (ps_ret (pv 2))))) pss_nil)
      (pss_cons (ps_asg (pe_op op_mod (pe_op op_add (pe_op op_mul (pe_ix ix_list (pv 0) pe_int (fun _ _ => rfl)) pe_int) pe_int) pe_int) (pg_sub (pv 0) pe_int set_list))
      (pss_one (ps_ret (pe_op op_mod (pe_op op_fdiv (pe_ix ix_list (pv 0) pe_int (fun _ _ => rfl)) pe_int) (pv 1))))), ?_⟩
    have a0 : atI [V.int d, V.int st] 0 = some (.int d) := rfl
    have a1 : atI [V.int d, V.int st] 1 = some (.int st) := rfl
    refine ⟨.ref f, rfl, f, _, 0, .int d, rfl, rfl, SqL.of hf, a0, d, 0, rfl, rfl, _, rfl, ite2 (fun e => ?_) (fun e => ?_)⟩
    · have hd : d > 0 := of_decide_eq_true e
      refine ⟨.ref f, rfl, f, _, 0, .int d, rfl, rfl, SqL.of hf, a0, .int m, rfl, d, m, rfl, rfl, m0, ?_⟩
      refine ⟨.ref f, rfl, f, _, 0, .int d, rfl, rfl, SqL.of hf, a0, .int m, rfl, d, m, rfl, rfl, wide_div (b := 64) m0 (by omega) (by decide) (by decide), ?_⟩
      refine ⟨.ref f, rfl, f, _, 0, 0, rfl, rfl, hf, rfl, .int (d % m), rfl, ?_⟩
      refine q _ _ Ch.put ⟨d / m, st, Int.ediv_nonneg d0 (by omega), t0, t1, upd_same⟩ (Int.emod_nonneg _ (by omega)) (Int.emod_lt_of_pos _ m0)
    · refine ⟨.ref f, rfl, f, _, 1, .int st, rfl, rfl, SqL.of hf, a1, st, 6364136223846793005, rfl, rfl, .inr ⟨by decide, by decide⟩, _, _, rfl, rfl, _, _, rfl, rfl, by show (0 : Int) < 2305843009213693951; decide, ?_⟩
      refine ⟨.ref f, rfl, f, _, 1, 1, rfl, rfl, hf, rfl, ?_⟩
      refine ⟨.ref f, rfl, f, _, 1, _, rfl, rfl, SqL.of upd_same, rfl, _, 65536, rfl, rfl, ⟨by decide, by decide⟩, .int m, rfl, _, m, rfl, rfl, m0, ?_⟩
      exact q _ _ Ch.put ⟨d, _, d0, Int.emod_nonneg _ (by decide), Int.emod_lt_of_pos _ (by decide), upd_same⟩ (Int.emod_nonneg _ (by omega)) (Int.emod_lt_of_pos _ m0)
def spPick (K : PySem.W.Frag) : Sp := fun vs H Q _ => ∃ (f c : Addr) (xs : List V), vs = [.ref f, .ref c] ∧ c ≠ f ∧ SqL K H c xs ∧ 0 < xs.length ∧ xs.length ≤ 1000 ∧ FeedAt H f ∧
  ∀ H' (j : Nat) v, xs[j]? = some v → Ch f H H' → FeedAt H' f → Q v H'
theorem ok_pick {f fT : Addr} {fd fdT : FuncData} {k : Nat} (F : Fun K "_law_pick" "_law_pick" sPick f fd) (FT : Fun K "_law_take" "_law_take" sTake fT fdT) (gT : mg "_law_take" = some (.ref fT)) (bT : Binds K fdT ["feed", "many"] []) (ml : mg "len" = none) :
    FnOk P w K mg base CX0 (k + 2) f fd ["feed", "some"] (spPick K) := by
  have GT : FnOk P w K mg base CX0 (k + 1) fT fdT ["feed", "many"] spTake := ok_take FT
  refine F.ok scPick (fun vs H Q E h => ?_) (fun cdv A outer s H vs Q E hr h => ?_)
  · obtain ⟨a, m, xs, rfl, _⟩ := h
    rfl
  · obtain ⟨f, c, xs, rfl, ncf, hS, l0, l1, hf, q⟩ := h
    refine ⟨_, pss_one (ps_ret (pe_ix ix_list (pv 1) (pe_call GT hr (by rfl) gT FT.kp bT .nil pass0 (pa_cons (pv 0) (pa_cons (pe_callB call_len_seq (by rfl) ml PySem.boot_len (pa_cons (pv 1) pa_nil)) pa_nil))) (fun _ _ => rfl))), ?_⟩
    refine ⟨.ref c, rfl, .ref f, rfl, .ref c, rfl, c, xs, rfl, .inl hS, f, _, rfl, by omega, by omega, hf, fun H' r ch fe r0 r1 => ?_⟩
    obtain ⟨j, rfl⟩ : ∃ j : Nat, r = (j : Int) := ⟨r.toNat, by omega⟩
    have hj : j < xs.length := by omega
    exact ⟨c, xs, _, xs[j], rfl, rfl, ch.seq ncf hS, atI_nat (List.getElem?_eq_getElem hj), q H' j _ (List.getElem?_eq_getElem hj) ch fe⟩
end
end KD

/-! places, sorted pairs, the stack's turns -/
namespace RN
open PM RM
def takenAt (ps : List Int) (i : Nat) : Bool := match ps.drop i with
  | a :: b :: c :: d :: _ => decide (Taken a b c d)
  | _ => false
theorem taken_here {ps : List Int} {i : Nat} (h : takenAt ps i = true) : ∃ pre a b c d post, ps = pre ++ a :: b :: c :: d :: post ∧ pre.length = i ∧ Taken a b c d := by
  unfold takenAt at h
  split at h
  · rename_i a b c d post e
    refine ⟨ps.take i, a, b, c, d, post, by rw [← e, List.take_append_drop], ?_, of_decide_eq_true h⟩
    have : (ps.drop i).length = post.length + 4 := by rw [e]; simp
    rw [List.length_drop] at this
    rw [List.length_take]
    omega
  · cases h
theorem taken_get {ps : List Int} {i : Nat} {a b c d : Int} (h0 : ps[i]? = some a) (h1 : ps[i + 1]? = some b) (h2 : ps[i + 2]? = some c) (h3 : ps[i + 3]? = some d) : takenAt ps i = decide (Taken a b c d) := by
  have e : ∀ {j : Nat} {r : Int}, ps[j]? = some r → ps.drop j = r :: ps.drop (j + 1) := fun {j r} h => by
    obtain ⟨k1, k2⟩ := List.getElem?_eq_some_iff.mp h
    rw [List.drop_eq_getElem_cons k1, k2]
  unfold takenAt
  rw [e h0, e h1, e h2, e h3]
theorem taken_lt {ps : List Int} {i : Nat} (h : takenAt ps i = true) : i < ps.length - 3 := by
  obtain ⟨pre, a, b, c, d, post, e, hl, _⟩ := taken_here h
  rw [e]
  simp only [List.length_append, List.length_cons]
  omega
theorem step_at {ps q : List Int} {cy : Int × Int} (h : Step ps cy q) : ∃ i, takenAt ps i = true := by
  induction h with
  | here t => exact ⟨0, decide_eq_true t⟩
  | there _ ih =>
    obtain ⟨i, e⟩ := ih
    exact ⟨i + 1, e⟩
def plc (ps : List Int) : List Int := ((List.range (ps.length - 3)).filter (takenAt ps)).map fun (i : Nat) => (i : Int) + 1
theorem plc_mem {ps : List Int} {x : Int} (h : x ∈ plc ps) : ∃ i : Nat, x = (i : Int) + 1 ∧ takenAt ps i = true := by
  obtain ⟨i, hi, e⟩ := List.mem_map.mp h
  exact ⟨i, e.symm, (List.mem_filter.mp hi).2⟩
theorem nf_of_plc {ps : List Int} (h : plc ps = []) : NF ps := by
  intro c q s
  obtain ⟨i, e⟩ := step_at s
  have : (i : Int) + 1 ∈ plc ps := List.mem_map.mpr ⟨i, List.mem_filter.mpr ⟨List.mem_range.mpr (taken_lt e), e⟩, rfl⟩
  rw [h] at this
  cases this
theorem plc_of_nf {ps : List Int} (h : NF ps) : plc ps = [] := by
  cases e : plc ps with
  | nil => rfl
  | cons x l =>
    have hx : x ∈ plc ps := by rw [e]; exact List.mem_cons_self
    obtain ⟨i, _, t⟩ := plc_mem hx
    obtain ⟨pre, a, b, c, d, post, e2, _, tk⟩ := taken_here t
    rw [e2] at h
    exact absurd ((Step.here tk).prefix pre) (h _ _)
theorem Run.suffix {p q : List Int} {cs : List (Int × Int)} (h : Run p cs q) (l : List Int) : Run (p ++ l) cs (q ++ l) := by
  induction h with
  | nil p => exact .nil _
  | cons s _ ih => exact .cons (s.suffix l) ih
theorem Run.ends {p r : List Int} {cs : List (Int × Int)} (h : Run p cs r) : (cs = [] ∧ p = r) ∨ 2 ≤ r.length := by
  induction h with
  | nil p => exact .inl ⟨rfl, rfl⟩
  | @cons p q r c cs s h ih =>
    refine .inr ?_
    rcases ih with ⟨_, e⟩ | e
    · subst e
      have : ∀ {p q : List Int} {c : Int × Int}, Step p c q → 2 ≤ q.length := by
        intro p q c s
        induction s with
        | here _ => simp only [List.length_cons]; omega
        | there _ ih => simp only [List.length_cons]; omega
      exact this s
    · exact e
theorem tq_zig : ∀ (l : List Int) (b a : Int), ZZ (b :: a :: l) → tq b a l = a :: l
  | [], _, _, _ => rfl
  | r :: l, b, a, z => by
    have h1 := z.1
    simp only [tq]
    rw [if_neg (by omega), if_neg (by omega), tq_zig l a r z.2]
theorem zz_tp {ps : List Int} (z : ZZ ps) : tp ps = ps := by
  match ps, z with
  | [], _ => rfl
  | [x], _ => rfl
  | x :: y :: l, z =>
    show ts x (y :: l) = _
    simp only [ts]
    rw [if_neg (zz_cons z), tq_zig l x y z]
/-- pairs in their order -/
abbrev Le (r s : Int × Int) : Prop := r.1 < s.1 ∨ (r.1 = s.1 ∧ r.2 ≤ s.2)
theorem le_anti {r s : Int × Int} (h1 : Le r s) (h2 : Le s r) : r = s := by
  obtain ⟨a, b⟩ := r
  obtain ⟨c, d⟩ := s
  have e1 : a = c := by simp only [Le] at h1 h2; omega
  have e2 : b = d := by simp only [Le] at h1 h2; omega
  rw [e1, e2]
theorem sorted_same : ∀ {l m : List (Int × Int)}, l.Perm m → l.Pairwise Le → m.Pairwise Le → l = m
  | [], m, h, _, _ => (List.Perm.nil_eq h)
  | x :: l, m, h, h1, h2 => by
    cases m with
    | nil => exact absurd h.length_eq (by simp)
    | cons y m =>
      have hx := List.pairwise_cons.mp h1
      have hy := List.pairwise_cons.mp h2
      have e : x = y := by
        have m1 : x ∈ y :: m := h.mem_iff.mp List.mem_cons_self
        have m2 : y ∈ x :: l := h.mem_iff.mpr List.mem_cons_self
        rcases List.mem_cons.mp m1 with e | e
        · exact e
        · rcases List.mem_cons.mp m2 with e' | e'
          · exact e'.symm
          · exact le_anti (hx.1 y e') (hy.1 x e)
      subst e
      rw [sorted_same ((List.perm_cons x).mp h) hx.2 hy.2]
end RN

/-! changes of a load, as mathematics -/
namespace KM
/-- how often a letter differs from the one before, the first of all being a -/
def cf : Bool → List Bool → Nat
  | _, [] => 0
  | a, b :: r => (if a = b then 0 else 1) + cf b r
def cnt : List Bool → Nat
  | [] => 0
  | a :: r => cf a r
def cfO : Option Bool → List Bool → Nat
  | none, l => cnt l
  | some a, l => cf a l
/-- the letter of a reading: true for L -/
def lett (lo hi : Int) (r : Int) : Option Bool := if r ≤ lo then some true else if hi ≤ r then some false else none
def lets (lo hi : Int) (ns : List Int) : List Bool := ns.filterMap (lett lo hi)
def chg (ns : List Int) (lo hi : Int) : Nat := cnt (lets lo hi ns)
theorem cf_tri (a b : Bool) : ∀ l : List Bool, cf a l ≤ (if a = b then 0 else 1) + cf b l
  | [] => Nat.zero_le _
  | c :: r => by
    simp only [cf]
    cases a <;> cases b <;> cases c <;> simp <;> omega
theorem cf_mono : ∀ {l m : List Bool}, l.Sublist m → ∀ a, cf a l ≤ cf a m := by
  intro l m h
  induction h with
  | slnil => intro a; exact Nat.le_refl _
  | @cons l m b h ih =>
    intro a
    have h1 := cf_tri a b l
    have h2 := ih b
    simp only [cf]
    omega
  | @cons_cons l m b h ih =>
    intro a
    have h2 := ih b
    simp only [cf]
    omega
theorem cnt_mono : ∀ {l m : List Bool}, l.Sublist m → cnt l ≤ cnt m := by
  intro l m h
  induction h with
  | slnil => exact Nat.le_refl _
  | @cons l m b h ih =>
    cases m with
    | nil =>
      cases h
      exact Nat.le_refl _
    | cons d r =>
      show cnt l ≤ (if b = d then 0 else 1) + cf d r
      have : cnt (d :: r) = cf d r := rfl
      omega
  | @cons_cons l m b h ih => exact cf_mono h b
theorem lets_sub {lo hi lo2 hi2 : Int} (h1 : lo ≤ lo2) (h2 : hi2 ≤ hi) (h3 : lo2 < hi2) : ∀ ns : List Int, (lets lo hi ns).Sublist (lets lo2 hi2 ns)
  | [] => .slnil
  | r :: t => by
    have ih := lets_sub h1 h2 h3 t
    have key : lett lo hi r = none ∨ lett lo hi r = lett lo2 hi2 r := by
      unfold lett
      by_cases a : r ≤ lo
      · right
        rw [if_pos a, if_pos (by omega)]
      · rw [if_neg a]
        by_cases b : hi ≤ r
        · right
          rw [if_pos b, if_neg (by omega), if_pos (by omega)]
        · left
          rw [if_neg b]
    show ((r :: t).filterMap (lett lo hi)).Sublist ((r :: t).filterMap (lett lo2 hi2))
    rw [List.filterMap_cons, List.filterMap_cons]
    rcases key with e | e
    · rw [e]
      dsimp only
      cases lett lo2 hi2 r with
      | none => exact ih
      | some b => exact .cons _ ih
    · rw [← e]
      cases lett lo hi r with
      | none => exact ih
      | some b => exact .cons_cons _ ih
theorem chg_range {lo hi lo2 hi2 : Int} (h1 : lo ≤ lo2) (h2 : hi2 ≤ hi) (h3 : lo2 < hi2) (ns : List Int) : chg ns lo hi ≤ chg ns lo2 hi2 := cnt_mono (lets_sub h1 h2 h3 ns)
theorem chg_sub {l m : List Int} (h : l.Sublist m) (lo hi : Int) : chg l lo hi ≤ chg m lo hi := cnt_mono (h.filterMap _)
theorem chg_put (ns : List Int) (k : Nat) (v lo hi : Int) : chg ns lo hi ≤ chg (ns.take k ++ [v] ++ ns.drop k) lo hi := by
  refine chg_sub ?_ lo hi
  have e : ns = ns.take k ++ ns.drop k := (List.take_append_drop k ns).symm
  have h1 : (ns.take k).Sublist (ns.take k ++ [v]) := List.sublist_append_left _ _
  have h2 := h1.append (List.Sublist.refl (ns.drop k))
  rw [List.take_append_drop] at h2
  exact h2
theorem lets_drop {lo hi : Int} {ns : List Int} {i : Nat} {r : Int} (h : ns[i]? = some r) : lets lo hi (ns.drop i) = (match lett lo hi r with | none => lets lo hi (ns.drop (i + 1)) | some b => b :: lets lo hi (ns.drop (i + 1))) := by
  obtain ⟨h1, h2⟩ := List.getElem?_eq_some_iff.mp h
  rw [List.drop_eq_getElem_cons h1, h2]
  unfold lets
  rw [List.filterMap_cons]
  cases lett lo hi r <;> rfl
theorem lets_take {lo hi : Int} {ns : List Int} {i : Nat} {r : Int} (h : ns[i]? = some r) : lets lo hi (ns.take (i + 1)) = (match lett lo hi r with | none => lets lo hi (ns.take i) | some b => lets lo hi (ns.take i) ++ [b]) := by
  rw [List.take_add_one, h]
  unfold lets
  rw [List.filterMap_append]
  show _ ++ List.filterMap _ [r] = _
  rw [List.filterMap_cons]
  cases lett lo hi r with
  | none => simp
  | some b => rfl
theorem lets_len (lo hi : Int) (ns : List Int) : (lets lo hi ns).length ≤ ns.length := List.length_filterMap_le _ _
/-- the number of turns of a zip with itself, one on, whose two differ -/
theorem cnt_drop {l : List Bool} {i : Nat} {a b : Bool} (h1 : l[i]? = some a) (h2 : l[i + 1]? = some b) : cnt (l.drop i) = (if a = b then 0 else 1) + cnt (l.drop (i + 1)) := by
  obtain ⟨k1, e1⟩ := List.getElem?_eq_some_iff.mp h1
  obtain ⟨k2, e2⟩ := List.getElem?_eq_some_iff.mp h2
  rw [List.drop_eq_getElem_cons k1, e1, List.drop_eq_getElem_cons k2, e2]
  rfl
theorem cnt_end {l : List Bool} {i : Nat} (h : l.length ≤ i + 1) : cnt (l.drop i) = 0 := by
  have : (l.drop i).length ≤ 1 := by rw [List.length_drop]; omega
  match l.drop i, this with
  | [], _ => rfl
  | [_], _ => rfl
end KM

/-! changes decide the half-cycles, as mathematics -/
namespace RC
open KM PM RM RN
/-- a range holds another one -/
def hl (lo hi : Int) (r : Int × Int) : Bool := decide (r.1 ≤ lo) && decide (hi ≤ r.2)
def nh (lo hi : Int) (rs : List (Int × Int)) : Nat := rs.countP (hl lo hi)
def b1 (b : Bool) : Nat := if b = true then 1 else 0
theorem nh_cons (lo hi : Int) (r : Int × Int) (rs : List (Int × Int)) : nh lo hi (r :: rs) = b1 (hl lo hi r) + nh lo hi rs := by
  unfold nh b1
  rw [List.countP_cons]
  omega
theorem nh_app (lo hi : Int) (rs ss : List (Int × Int)) : nh lo hi (rs ++ ss) = nh lo hi rs + nh lo hi ss := List.countP_append
theorem nh_perm {lo hi : Int} {rs ss : List (Int × Int)} (h : rs.Perm ss) : nh lo hi rs = nh lo hi ss := h.countP_eq _
/-- a letter is read, some before -/
def cl (lo hi : Int) (o : Option Bool) (ns : List Int) : Nat := cfO o (lets lo hi ns)
def d2 (o : Option Bool) (b : Bool) : Nat := match o with
  | none => 0
  | some a => if a = b then 0 else 1
theorem cl_nil (lo hi : Int) (o : Option Bool) : cl lo hi o [] = 0 := by cases o <;> rfl
theorem cl_cons (lo hi : Int) (o : Option Bool) (x : Int) (ns : List Int) : cl lo hi o (x :: ns) = match lett lo hi x with
    | none => cl lo hi o ns
    | some b => d2 o b + cl lo hi (some b) ns := by
  unfold cl lets
  rw [List.filterMap_cons]
  cases lett lo hi x with
  | none => rfl
  | some b =>
    cases o with
    | none => show cf b _ = 0 + cf b _; omega
    | some a => rfl
theorem lett_lo {lo hi x : Int} (h : x ≤ lo) : lett lo hi x = some true := if_pos h
theorem lett_hi {lo hi x : Int} (h0 : lo < hi) (h : hi ≤ x) : lett lo hi x = some false := by unfold lett; rw [if_neg (by omega), if_pos h]
theorem lett_no {lo hi x : Int} (h1 : lo < x) (h2 : x < hi) : lett lo hi x = none := by unfold lett; rw [if_neg (by omega), if_neg (by omega)]
theorem lett3 (lo hi x : Int) (h0 : lo < hi) : (x ≤ lo ∧ lett lo hi x = some true) ∨ (hi ≤ x ∧ lett lo hi x = some false) ∨ (lo < x ∧ x < hi ∧ lett lo hi x = none) := by
  by_cases a : x ≤ lo
  · exact .inl ⟨a, lett_lo a⟩
  · by_cases b : hi ≤ x
    · exact .inr (.inl ⟨b, lett_hi h0 b⟩)
    · exact .inr (.inr ⟨by omega, by omega, lett_no (by omega) (by omega)⟩)
theorem hl_iff {lo hi : Int} {a b : Int} : hl lo hi (a, b) = decide (a ≤ lo ∧ hi ≤ b) := by
  unfold hl
  by_cases h1 : a ≤ lo <;> by_cases h2 : hi ≤ b <;> simp [h1, h2]
theorem four_up {lo hi a b c d : Int} (h0 : lo < hi) (post : List Int) (o : Option Bool) (h1 : a ≤ c) (h2 : c < b) (h3 : b ≤ d) : cl lo hi o (a :: b :: c :: d :: post) = cl lo hi o (a :: d :: post) + 2 * b1 (hl lo hi (c, b)) := by
  rw [hl_iff]
  simp only [cl_cons]
  rcases lett3 lo hi a h0 with ⟨x1, e1⟩ | ⟨x1, e1⟩ | ⟨x1, y1, e1⟩ <;> rcases lett3 lo hi b h0 with ⟨x2, e2⟩ | ⟨x2, e2⟩ | ⟨x2, y2, e2⟩ <;> rcases lett3 lo hi c h0 with ⟨x3, e3⟩ | ⟨x3, e3⟩ | ⟨x3, y3, e3⟩ <;> rcases lett3 lo hi d h0 with ⟨x4, e4⟩ | ⟨x4, e4⟩ | ⟨x4, y4, e4⟩ <;> first
    | (exfalso; omega)
    | (rw [decide_eq_true (by omega), e1, e2, e3, e4]; simp only [d2, b1]; cases o with
        | none => simp <;> omega
        | some p => cases p <;> simp <;> omega)
    | (rw [decide_eq_false (by omega), e1, e2, e3, e4]; simp only [d2, b1]; cases o with
        | none => simp
        | some p => cases p <;> simp)
theorem four_down {lo hi a b c d : Int} (h0 : lo < hi) (post : List Int) (o : Option Bool) (h1 : c ≤ a) (h2 : b < c) (h3 : d ≤ b) : cl lo hi o (a :: b :: c :: d :: post) = cl lo hi o (a :: d :: post) + 2 * b1 (hl lo hi (b, c)) := by
  rw [hl_iff]
  simp only [cl_cons]
  rcases lett3 lo hi a h0 with ⟨x1, e1⟩ | ⟨x1, e1⟩ | ⟨x1, y1, e1⟩ <;> rcases lett3 lo hi b h0 with ⟨x2, e2⟩ | ⟨x2, e2⟩ | ⟨x2, y2, e2⟩ <;> rcases lett3 lo hi c h0 with ⟨x3, e3⟩ | ⟨x3, e3⟩ | ⟨x3, y3, e3⟩ <;> rcases lett3 lo hi d h0 with ⟨x4, e4⟩ | ⟨x4, e4⟩ | ⟨x4, y4, e4⟩ <;> first
    | (exfalso; omega)
    | (rw [decide_eq_true (by omega), e1, e2, e3, e4]; simp only [d2, b1]; cases o with
        | none => simp <;> omega
        | some p => cases p <;> simp <;> omega)
    | (rw [decide_eq_false (by omega), e1, e2, e3, e4]; simp only [d2, b1]; cases o with
        | none => simp
        | some p => cases p <;> simp)
theorem cl_step {lo hi : Int} (h0 : lo < hi) {p q : List Int} {c : Int × Int} (h : Step p c q) : ZZ p → ∀ o, cl lo hi o p = cl lo hi o q + 2 * b1 (hl lo hi c) := by
  induction h with
  | @here a b c d post t =>
    intro z o
    rcases (taken_iff z.four).mp t with ⟨x1, x2, x3, x4, x5⟩ | ⟨x1, x2, x3, x4, x5⟩
    · rw [rg_down x2]; exact four_up h0 post o x4 x2 x5
    · rw [rg_up x2]; exact four_down h0 post o x4 x2 x5
  | @there x p q cy s ih =>
    intro z o
    rw [cl_cons, cl_cons]
    cases lett lo hi x with
    | none => exact ih z.tail o
    | some b =>
      have := ih z.tail (some b)
      show d2 o b + cl lo hi (some b) p = d2 o b + cl lo hi (some b) q + _
      omega
theorem cl_run {lo hi : Int} (h0 : lo < hi) {p q : List Int} {cs : List (Int × Int)} (h : Run p cs q) : ZZ p → ∀ o, cl lo hi o p = cl lo hi o q + 2 * nh lo hi cs := by
  induction h with
  | nil p => intro _ o; rfl
  | cons s _ ih =>
    intro z o
    rw [cl_step h0 s z o, ih (ZZ.step s z) o, nh_cons]
    omega
/-! the load and its turning points -/
theorem cl_same {lo hi : Int} (o : Option Bool) (a : Int) (l : List Int) : cl lo hi o (a :: a :: l) = cl lo hi o (a :: l) := by
  simp only [cl_cons]
  cases lett lo hi a with
  | none => rfl
  | some b => simp [d2]
theorem cl_btw {lo hi : Int} (h0 : lo < hi) (o : Option Bool) {b a r : Int} (l : List Int) (h : Btw a b r) : cl lo hi o (b :: a :: r :: l) = cl lo hi o (b :: r :: l) := by
  simp only [cl_cons]
  rcases lett3 lo hi a h0 with ⟨x1, e1⟩ | ⟨x1, e1⟩ | ⟨x1, y1, e1⟩ <;> rcases lett3 lo hi b h0 with ⟨x2, e2⟩ | ⟨x2, e2⟩ | ⟨x2, y2, e2⟩ <;> rcases lett3 lo hi r h0 with ⟨x3, e3⟩ | ⟨x3, e3⟩ | ⟨x3, y3, e3⟩ <;> first
    | (exfalso; omega)
    | (rw [e1, e2, e3]; done)
    | (rw [e1, e2, e3]; cases o with
        | none => simp [d2]
        | some p => cases p <;> simp [d2])
theorem cl_tq {lo hi : Int} (h0 : lo < hi) : ∀ (l : List Int) (o : Option Bool) (b a : Int), cl lo hi o (b :: tq b a l) = cl lo hi o (b :: a :: l)
  | [], _, _, _ => rfl
  | r :: l, o, b, a => by
    simp only [tq]
    by_cases e : a = r
    · rw [if_pos e, cl_tq h0 l o b a, ← e, cl_cons lo hi o b (a :: a :: l), cl_cons lo hi o b (a :: l)]
      cases lett lo hi b with
      | none => exact (cl_same _ _ _).symm
      | some x => exact congrArg _ (cl_same _ _ _).symm
    · rw [if_neg e]
      by_cases bt : Btw a b r
      · rw [if_pos bt, cl_tq h0 l o b r, cl_btw h0 o l bt]
      · rw [if_neg bt, cl_cons lo hi o b (a :: tq a r l), cl_cons lo hi o b (a :: r :: l)]
        cases lett lo hi b with
        | none => exact cl_tq h0 l o a r
        | some x => exact congrArg (d2 o x + ·) (cl_tq h0 l (some x) a r)
theorem cl_ts {lo hi : Int} (h0 : lo < hi) : ∀ (l : List Int) (o : Option Bool) (a : Int), cl lo hi o (ts a l) = cl lo hi o (a :: l)
  | [], _, _ => rfl
  | r :: l, o, a => by
    simp only [ts]
    by_cases e : a = r
    · rw [if_pos e, cl_ts h0 l o a, ← e, cl_same]
    · rw [if_neg e, cl_tq h0 l o a r]
theorem cl_tp {lo hi : Int} (h0 : lo < hi) (ns : List Int) : cl lo hi none (tp ns) = chg ns lo hi := by
  cases ns with
  | nil => rfl
  | cons a l => exact cl_ts h0 l none a
/-! the rest: swings that grow and then shrink -/
def In (u v : Int) (ps : List Int) : Prop := ∀ x ∈ ps, u ≤ x ∧ x ≤ v
/-- each swing within the one before -/
def Con : List Int → Prop
  | x :: y :: z :: r => ((y < x ∧ y < z ∧ z ≤ x) ∨ (x < y ∧ z < y ∧ x ≤ z)) ∧ Con (y :: z :: r)
  | _ => True
theorem Con.inside : ∀ {r : List Int} {x y : Int}, Con (x :: y :: r) → x ≠ y → In (if x < y then x else y) (if x < y then y else x) (x :: y :: r)
  | [], x, y, _, h => by
    intro w hw
    rcases List.mem_cons.mp hw with e | hw
    · subst e; split <;> omega
    · rcases List.mem_cons.mp hw with e | hw
      · subst e; split <;> omega
      · exact absurd hw (List.not_mem_nil)
  | z :: r, x, y, c, h => by
    have ih := Con.inside c.2 (by have := c.1; omega)
    intro w hw
    have c1 := c.1
    rcases List.mem_cons.mp hw with e | hw
    · subst e; split <;> omega
    · have := ih w hw
      by_cases e1 : y < z
      · rw [if_pos e1, if_pos e1] at this
        rw [if_neg (by omega), if_neg (by omega)]
        omega
      · rw [if_neg e1, if_neg e1] at this
        rw [if_pos (by omega), if_pos (by omega)]
        omega
theorem nf_con : ∀ {r : List Int} {x y z : Int}, ZZ (x :: y :: z :: r) → NF (x :: y :: z :: r) → ((y < x ∧ z ≤ x) ∨ (x < y ∧ x ≤ z)) → Con (x :: y :: z :: r)
  | [], x, y, z, zz, _, h => ⟨by have := zz.1; omega, trivial⟩
  | w :: r, x, y, z, zz, n, h => by
    have z1 := zz.1
    have z2 := zz.2.1
    refine ⟨by omega, nf_con zz.2 (fun c q s => n _ _ (.there s)) ?_⟩
    have nt : ¬ Taken x y z w := fun t => n _ _ (.here t)
    rw [taken_iff zz.four] at nt
    omega
theorem one_letter {lo hi : Int} {b : Bool} : ∀ (l : List Int) (o : Option Bool), (o = none ∨ o = some b) → (∀ x ∈ l, lett lo hi x = none ∨ lett lo hi x = some b) → cl lo hi o l = 0
  | [], o, _, _ => cl_nil lo hi o
  | x :: l, o, h1, h2 => by
    have ih := fun o h => one_letter l o h (fun x hx => h2 x (List.mem_cons_of_mem _ hx))
    rw [cl_cons]
    rcases h2 x List.mem_cons_self with e | e
    · rw [e]; exact ih o h1
    · rw [e]
      show d2 o b + cl lo hi (some b) l = 0
      rw [ih _ (.inr rfl)]
      rcases h1 with e | e
      · rw [e]; rfl
      · rw [e]; simp [d2]
theorem con_one {lo hi x y : Int} (h0 : lo < hi) {r : List Int} (h : In (if x < y then x else y) (if x < y then y else x) (x :: y :: r)) (ne : x ≠ y) : cl lo hi none (x :: y :: r) = b1 (hl lo hi (rg x y)) + cl lo hi none (y :: r) := by
  have out : ∀ u v, u < v → In u v (x :: y :: r) → hl lo hi (u, v) = false → cl lo hi none (x :: y :: r) = 0 ∧ cl lo hi none (y :: r) = 0 := by
    intro u v huv hin hn
    rw [hl_iff] at hn
    have hn := of_decide_eq_false hn
    by_cases a : u ≤ lo
    · have hb : v < hi := by omega
      have key : ∀ w ∈ x :: y :: r, lett lo hi w = none ∨ lett lo hi w = some true := fun w hw => by
        have := hin w hw
        rcases lett3 lo hi w h0 with ⟨_, e⟩ | ⟨z, e⟩ | ⟨_, _, e⟩
        · exact .inr e
        · omega
        · exact .inl e
      exact ⟨one_letter _ _ (.inl rfl) key, one_letter _ _ (.inl rfl) fun w hw => key w (List.mem_cons_of_mem _ hw)⟩
    · have key : ∀ w ∈ x :: y :: r, lett lo hi w = none ∨ lett lo hi w = some false := fun w hw => by
        have := hin w hw
        rcases lett3 lo hi w h0 with ⟨z, e⟩ | ⟨z, e⟩ | ⟨_, _, e⟩
        · omega
        · exact .inr e
        · exact .inl e
      exact ⟨one_letter _ _ (.inl rfl) key, one_letter _ _ (.inl rfl) fun w hw => key w (List.mem_cons_of_mem _ hw)⟩
  rcases (show x < y ∨ y < x by omega) with h1 | h1
  · rw [if_pos h1, if_pos h1] at h
    rw [rg_up h1]
    cases e : hl lo hi (x, y) with
    | false => obtain ⟨e1, e2⟩ := out x y h1 h e; rw [e1, e2]; rfl
    | true =>
      rw [hl_iff] at e
      have e := of_decide_eq_true e
      rw [cl_cons lo hi none x, cl_cons lo hi none y, lett_lo e.1, lett_hi h0 e.2]
      show d2 none true + cl lo hi (some true) (y :: r) = b1 true + (d2 none false + cl lo hi (some false) r)
      rw [cl_cons, lett_hi h0 e.2]
      simp [d2, b1]
  · rw [if_neg (by omega), if_neg (by omega)] at h
    rw [rg_down h1]
    cases e : hl lo hi (y, x) with
    | false => obtain ⟨e1, e2⟩ := out y x h1 h e; rw [e1, e2]; rfl
    | true =>
      rw [hl_iff] at e
      have e := of_decide_eq_true e
      rw [cl_cons lo hi none x, cl_cons lo hi none y, lett_lo e.1, lett_hi h0 e.2]
      show d2 none false + cl lo hi (some false) (y :: r) = b1 true + (d2 none true + cl lo hi (some true) r)
      rw [cl_cons, lett_lo e.1]
      simp [d2, b1]
theorem wide_one {lo hi x y z : Int} (h0 : lo < hi) {r : List Int} (h : (y < x ∧ x < z) ∨ (x < y ∧ z < x)) : cl lo hi none (x :: y :: z :: r) = b1 (hl lo hi (rg x y)) + cl lo hi none (y :: z :: r) := by
  rcases h with ⟨h1, h2⟩ | ⟨h1, h2⟩
  · rw [rg_down h1, hl_iff]
    simp only [cl_cons]
    rcases lett3 lo hi x h0 with ⟨x1, e1⟩ | ⟨x1, e1⟩ | ⟨x1, y1, e1⟩ <;> rcases lett3 lo hi y h0 with ⟨x2, e2⟩ | ⟨x2, e2⟩ | ⟨x2, y2, e2⟩ <;> rcases lett3 lo hi z h0 with ⟨x3, e3⟩ | ⟨x3, e3⟩ | ⟨x3, y3, e3⟩ <;> first
      | (exfalso; omega)
      | (rw [decide_eq_true (by omega), e1, e2, e3]; simp [d2, b1]; done)
      | (rw [decide_eq_false (by omega), e1, e2, e3]; simp [d2, b1]; done)
  · rw [rg_up h1, hl_iff]
    simp only [cl_cons]
    rcases lett3 lo hi x h0 with ⟨x1, e1⟩ | ⟨x1, e1⟩ | ⟨x1, y1, e1⟩ <;> rcases lett3 lo hi y h0 with ⟨x2, e2⟩ | ⟨x2, e2⟩ | ⟨x2, y2, e2⟩ <;> rcases lett3 lo hi z h0 with ⟨x3, e3⟩ | ⟨x3, e3⟩ | ⟨x3, y3, e3⟩ <;> first
      | (exfalso; omega)
      | (rw [decide_eq_true (by omega), e1, e2, e3]; simp [d2, b1]; done)
      | (rw [decide_eq_false (by omega), e1, e2, e3]; simp [d2, b1]; done)
theorem nf_nh {lo hi : Int} (h0 : lo < hi) : ∀ (ps : List Int), ZZ ps → NF ps → cl lo hi none ps = nh lo hi (sw ps)
  | [], _, _ => rfl
  | [x], _, _ => by
    rw [cl_cons]
    cases lett lo hi x <;> rfl
  | [x, y], zz, _ => by
    have zz : x ≠ y := zz
    show _ = nh lo hi [rg x y]
    rw [nh_cons, con_one h0 (Con.inside (r := []) (x := x) (y := y) (show Con [x, y] from trivial) zz) zz]
    show _ + cl lo hi none [y] = _ + 0
    rw [cl_cons]
    cases lett lo hi y <;> rfl
  | x :: y :: z :: r, zz, n => by
    have ih := nf_nh h0 (y :: z :: r) zz.2 (fun c q s => n _ _ (.there s))
    show _ = nh lo hi (rg x y :: sw (y :: z :: r))
    rw [nh_cons, ← ih]
    have z1 := zz.1
    by_cases h : (y < x ∧ z ≤ x) ∨ (x < y ∧ x ≤ z)
    · exact con_one h0 (Con.inside (nf_con zz n h) (by omega)) (by omega)
    · exact wide_one h0 (by omega)
/-- the changes of a load are the half-cycles that hold the range -/
theorem chg_count {lo hi : Int} (h0 : lo < hi) {ns rs : List Int} {cs : List (Int × Int)} (h : Run (tp ns) cs rs) (n : NF rs) : chg ns lo hi = 2 * nh lo hi cs + nh lo hi (sw rs) := by
  rw [← cl_tp h0, cl_run h0 h (tp_zz ns), nf_nh h0 rs (h.zz (tp_zz ns)) n]
  omega
/-! just a range: the second difference -/
theorem just_one (lo hi : Int) (r : Int × Int) : b1 (decide (r = (lo, hi))) + b1 (hl (lo - 1) hi r) + b1 (hl lo (hi + 1) r) = b1 (hl lo hi r) + b1 (hl (lo - 1) (hi + 1) r) := by
  obtain ⟨u, v⟩ := r
  simp only [hl_iff]
  have e : decide ((u, v) = (lo, hi)) = decide (u = lo ∧ v = hi) := by simp
  rw [e]
  simp only [b1, decide_eq_true_eq]
  repeat' split
  all_goals omega
theorem just {lo hi : Int} : ∀ rs : List (Int × Int), rs.count (lo, hi) + nh (lo - 1) hi rs + nh lo (hi + 1) rs = nh lo hi rs + nh (lo - 1) (hi + 1) rs
  | [] => rfl
  | r :: rs => by
    have ih := just (lo := lo) (hi := hi) rs
    have h1 := just_one lo hi r
    rw [nh_cons, nh_cons, nh_cons, nh_cons, List.count_cons]
    have e : (if (r == (lo, hi)) = true then 1 else 0) = b1 (decide (r = (lo, hi))) := by
      unfold b1
      by_cases z : r = (lo, hi)
      · simp [z]
      · simp [z]
    rw [e]
    omega
end RC

/-! the number of half-cycles in an up-set of ranges never grows when readings are left out -/
namespace K52
open KM PM RM RN RC
/-- a set of ranges that goes on to wider ones -/
structure Up (U : Int → Int → Bool) : Prop where
  up : ∀ {a b c d : Int}, c ≤ a → b ≤ d → U a b = true → U c d = true
  lt : ∀ {a b : Int}, U a b = true → a < b
inductive S where
  | no
  | bo (m M : Int)
  | up (m : Int)
  | dn (M : Int)
def mn (a b : Int) : Int := if a ≤ b then a else b
def mx (a b : Int) : Int := if a ≤ b then b else a
theorem mn1 (a b : Int) : mn a b ≤ a := by unfold mn; split <;> omega
theorem mn2 (a b : Int) : mn a b ≤ b := by unfold mn; split <;> omega
theorem mx1 (a b : Int) : a ≤ mx a b := by unfold mx; split <;> omega
theorem mx2 (a b : Int) : b ≤ mx a b := by unfold mx; split <;> omega
def nx (U : Int → Int → Bool) : S → Int → S
  | .no, r => .bo r r
  | .bo m M, r => if U m r = true then .dn r else if U r M = true then .up r else .bo (mn m r) (mx M r)
  | .up m, r => if U m r = true then .dn r else .up (mn m r)
  | .dn M, r => if U r M = true then .up r else .dn (mx M r)
def ky (U : Int → Int → Bool) : S → Int → Nat
  | .no, _ => 0
  | .bo m M, r => if U m r = true then 1 else if U r M = true then 1 else 0
  | .up m, r => if U m r = true then 1 else 0
  | .dn M, r => if U r M = true then 1 else 0
def g (U : Int → Int → Bool) : S → List Int → Nat
  | _, [] => 0
  | s, r :: l => ky U s r + g U (nx U s r) l
/-- what stands behind a reading -/
def Seen (U : Int → Int → Bool) : S → Int → Prop
  | .no, _ => False
  | .bo m M, a => m ≤ a ∧ a ≤ M ∧ U m M = false
  | .up m, a => m ≤ a ∧ U m a = false
  | .dn M, a => a ≤ M ∧ U a M = false
def Ok (U : Int → Int → Bool) : S → Prop
  | .bo m M => m ≤ M ∧ U m M = false
  | _ => True
section
variable {U : Int → Int → Bool}
theorem Up.no (h : Up U) {a b c d : Int} (h1 : c ≤ a) (h2 : b ≤ d) (e : U c d = false) : U a b = false := by
  cases x : U a b with
  | false => rfl
  | true => rw [h.up h1 h2 x] at e; exact e
theorem Up.ge (h : Up U) {a b : Int} (e : b ≤ a) : U a b = false := by
  cases x : U a b with
  | false => rfl
  | true => have := h.lt x; omega
theorem seen_nx (h : Up U) {s : S} {a : Int} (o : Ok U s) : Seen U (nx U s a) a ∧ Ok U (nx U s a) := by
  cases s with
  | no => exact ⟨⟨Int.le_refl _, Int.le_refl _, h.ge (Int.le_refl _)⟩, Int.le_refl _, h.ge (Int.le_refl _)⟩
  | bo m M =>
    obtain ⟨o1, o2⟩ := o
    simp only [nx]
    split
    · exact ⟨⟨Int.le_refl _, h.ge (Int.le_refl _)⟩, trivial⟩
    · split
      · exact ⟨⟨Int.le_refl _, h.ge (Int.le_refl _)⟩, trivial⟩
      · rename_i h1 h2
        have e : U (mn m a) (mx M a) = false := by
          unfold mn mx
          split <;> split
          · simpa using h1
          · exact o2
          · exact h.ge (by omega)
          · simpa using h2
        have := mn1 m a
        have := mx1 M a
        exact ⟨⟨mn2 _ _, mx2 _ _, e⟩, by omega, e⟩
  | up m =>
    simp only [nx]
    split
    · exact ⟨⟨Int.le_refl _, h.ge (Int.le_refl _)⟩, trivial⟩
    · rename_i h1
      refine ⟨⟨mn2 _ _, ?_⟩, trivial⟩
      unfold mn
      split
      · simpa using h1
      · exact h.ge (Int.le_refl _)
  | dn M =>
    simp only [nx]
    split
    · exact ⟨⟨Int.le_refl _, h.ge (Int.le_refl _)⟩, trivial⟩
    · rename_i h1
      refine ⟨⟨mx2 _ _, ?_⟩, trivial⟩
      unfold mx
      split
      · exact h.ge (Int.le_refl _)
      · simpa using h1
theorem nx_same (h : Up U) {s : S} {a : Int} (o : Seen U s a) : nx U s a = s ∧ ky U s a = 0 := by
  cases s with
  | no => exact o.elim
  | bo m M =>
    obtain ⟨o1, o2, o3⟩ := o
    have e1 := h.no (Int.le_refl m) o2 o3
    have e2 := h.no o1 (Int.le_refl M) o3
    simp only [nx, ky, e1, e2, mn, mx]
    constructor
    · rw [if_neg (by simp), if_neg (by simp), if_pos o1]
      split
      · rw [show M = a by omega]
      · rfl
    · simp
  | up m =>
    obtain ⟨o1, o2⟩ := o
    simp [nx, ky, o2, mn, o1]
  | dn M =>
    obtain ⟨o1, o2⟩ := o
    simp only [nx, ky, o2, mx]
    constructor
    · rw [if_neg (by simp)]
      split
      · rw [show M = a by omega]
      · rfl
    · simp
theorem g_same (h : Up U) {s : S} {a : Int} (o : Seen U s a) (l : List Int) : g U s (a :: l) = g U s l := by
  obtain ⟨e1, e2⟩ := nx_same h o
  show ky U s a + g U (nx U s a) l = _
  rw [e1, e2, Nat.zero_add]
def b2 (b : Bool) : Nat := if b = true then 1 else 0

theorem mnl {a b : Int} (h : a ≤ b) : mn a b = a := if_pos h
theorem mnr {a b : Int} (h : b ≤ a) : mn a b = b := by unfold mn; split <;> omega
theorem mxl {a b : Int} (h : b ≤ a) : mx a b = a := by unfold mx; split <;> omega
theorem mxr {a b : Int} (h : a ≤ b) : mx a b = b := if_pos h
theorem bo_u {m M r : Int} (e : U m r = true) (l : List Int) : g U (.bo m M) (r :: l) = 1 + g U (.dn r) l := by simp [g, nx, ky, e]
theorem bo_d {m M r : Int} (e1 : U m r = false) (e : U r M = true) (l : List Int) : g U (.bo m M) (r :: l) = 1 + g U (.up r) l := by simp [g, nx, ky, e, e1]
theorem bo_n {m M r : Int} (e1 : U m r = false) (e : U r M = false) (l : List Int) : g U (.bo m M) (r :: l) = g U (.bo (mn m r) (mx M r)) l := by simp [g, nx, ky, e, e1]
theorem up_y {m r : Int} (e : U m r = true) (l : List Int) : g U (.up m) (r :: l) = 1 + g U (.dn r) l := by simp [g, nx, ky, e]
theorem up_n {m r : Int} (e : U m r = false) (l : List Int) : g U (.up m) (r :: l) = g U (.up (mn m r)) l := by simp [g, nx, ky, e]
theorem dn_y {M r : Int} (e : U r M = true) (l : List Int) : g U (.dn M) (r :: l) = 1 + g U (.up r) l := by simp [g, nx, ky, e]
theorem dn_n {M r : Int} (e : U r M = false) (l : List Int) : g U (.dn M) (r :: l) = g U (.dn (mx M r)) l := by simp [g, nx, ky, e]
theorem no_1 {r : Int} (l : List Int) : g U .no (r :: l) = g U (.bo r r) l := by simp [g, nx, ky]
theorem four_up (h : Up U) {s : S} {a b c d : Int} (o : Seen U s a) (post : List Int) (h1 : a ≤ c) (h2 : c < b) (h3 : b ≤ d) : g U s (b :: c :: d :: post) = g U s (d :: post) + 2 * b2 (U c b) := by
  cases s with
  | no => exact o.elim
  | bo m M =>
    obtain ⟨o1, o2, o3⟩ := o
    cases e : U m b with
    | true =>
      have hb : M < b := by
        apply Classical.byContradiction; intro z
        rw [h.no (Int.le_refl m) (show b ≤ M by omega) o3] at e
        cases e
      rw [bo_u e, bo_u (h.up (Int.le_refl m) h3 e)]
      cases f : U c b with
      | true => rw [dn_y f, up_y (h.up (Int.le_refl c) h3 f)]; simp [b2]; omega
      | false => rw [dn_n f, mxl (by omega), dn_n (h.ge h3), mxr h3]; simp [b2]
    | false =>
      have f := h.no (show m ≤ c by omega) (Int.le_refl b) e
      rw [f, bo_n e (h.no (show m ≤ b by omega) (Int.le_refl M) o3), mnl (by omega)]
      have e2 : U c (mx M b) = false := by
        unfold mx; split
        · exact f
        · exact h.no (show m ≤ c by omega) (Int.le_refl M) o3
      have q1 := mx1 M b
      have q2 := mx2 M b
      rw [bo_n (h.no (Int.le_refl m) (show c ≤ b by omega) e) e2, mnl (by omega), mxl (show c ≤ mx M b by omega)]
      cases k : U m d with
      | true => rw [bo_u k, bo_u k]; simp [b2]
      | false =>
        have e3 : U d (mx M b) = false := by
          unfold mx; split
          · exact h.ge h3
          · exact h.no (show m ≤ d by omega) (Int.le_refl M) o3
        rw [bo_n k e3, bo_n k (h.no (show m ≤ d by omega) (Int.le_refl M) o3)]
        have : mx (mx M b) d = mx M d := by unfold mx; repeat (first | split | omega)
        rw [this]; simp [b2]
  | up m =>
    obtain ⟨o1, o2⟩ := o
    cases e : U m b with
    | true =>
      rw [up_y e, up_y (h.up (Int.le_refl m) h3 e)]
      cases f : U c b with
      | true => rw [dn_y f, up_y (h.up (Int.le_refl c) h3 f)]; simp [b2]; omega
      | false => rw [dn_n f, mxl (by omega), dn_n (h.ge h3), mxr h3]; simp [b2]
    | false =>
      rw [h.no (show m ≤ c by omega) (Int.le_refl b) e, up_n e, mnl (by omega), up_n (h.no (Int.le_refl m) (show c ≤ b by omega) e), mnl (by omega)]
      simp [b2]
  | dn M =>
    obtain ⟨o1, o2⟩ := o
    rw [dn_n (h.no (show a ≤ b by omega) (Int.le_refl M) o2)]
    by_cases q : b ≤ M
    · rw [mxl q, dn_n (h.no h1 (Int.le_refl M) o2), mxl (by omega), h.no h1 q o2]; simp [b2]
    · rw [mxr (by omega), dn_n (h.ge (show M ≤ d by omega)), mxr (show M ≤ d by omega)]
      cases f : U c b with
      | true => rw [dn_y f, up_y (h.up (Int.le_refl c) h3 f)]; simp [b2]; omega
      | false => rw [dn_n f, mxl (by omega), dn_n (h.ge h3), mxr h3]; simp [b2]
theorem four_down (h : Up U) {s : S} {a b c d : Int} (o : Seen U s a) (post : List Int) (h1 : c ≤ a) (h2 : b < c) (h3 : d ≤ b) : g U s (b :: c :: d :: post) = g U s (d :: post) + 2 * b2 (U b c) := by
  cases s with
  | no => exact o.elim
  | bo m M =>
    obtain ⟨o1, o2, o3⟩ := o
    rw [show g U (.bo m M) (b :: c :: d :: post) = _ from rfl]
    have k1 := h.no (Int.le_refl m) (show b ≤ M by omega) o3
    have k2 := h.no (Int.le_refl m) (show d ≤ M by omega) o3
    cases e : U b M with
    | true =>
      have hb : b < m := by
        apply Classical.byContradiction; intro z
        rw [h.no (show m ≤ b by omega) (Int.le_refl M) o3] at e
        cases e
      rw [bo_d k1 e, bo_d k2 (h.up h3 (Int.le_refl M) e)]
      cases f : U b c with
      | true => rw [up_y f, dn_y (h.up h3 (Int.le_refl c) f)]; simp [b2]; omega
      | false => rw [up_n f, mnl (by omega), up_n (h.ge h3), mnr h3]; simp [b2]
    | false =>
      have f := h.no (Int.le_refl b) (show c ≤ M by omega) e
      rw [f, bo_n k1 e, mxl (show b ≤ M by omega)]
      have q1 := mn1 m b
      have q2 := mn2 m b
      have e2 : U (mn m b) c = false := by
        unfold mn; split
        · exact h.no (Int.le_refl m) (show c ≤ M by omega) o3
        · exact f
      rw [bo_n e2 (h.no (show b ≤ c by omega) (Int.le_refl M) e), mnl (show mn m b ≤ c by omega), mxl (show c ≤ M by omega)]
      have e3 : U (mn m b) d = false := by
        unfold mn; split
        · exact k2
        · exact h.ge h3
      cases k : U d M with
      | true => rw [bo_d e3 k, bo_d k2 k]; simp [b2]
      | false =>
        rw [bo_n e3 k, bo_n k2 k]
        have : mn (mn m b) d = mn m d := by unfold mn; repeat (first | split | omega)
        rw [this]; simp [b2]
  | up m =>
    obtain ⟨o1, o2⟩ := o
    rw [up_n (h.no (Int.le_refl m) (show b ≤ a by omega) o2)]
    by_cases q : m ≤ b
    · rw [mnl q, up_n (h.no (Int.le_refl m) h1 o2), mnl (by omega), h.no q h1 o2]; simp [b2]
    · rw [mnr (by omega), up_n (h.ge (show d ≤ m by omega)), mnr (show d ≤ m by omega)]
      cases f : U b c with
      | true => rw [up_y f, dn_y (h.up h3 (Int.le_refl c) f)]; simp [b2]; omega
      | false => rw [up_n f, mnl (by omega), up_n (h.ge h3), mnr h3]; simp [b2]
  | dn M =>
    obtain ⟨o1, o2⟩ := o
    cases e : U b M with
    | true =>
      rw [dn_y e, dn_y (h.up h3 (Int.le_refl M) e)]
      cases f : U b c with
      | true => rw [up_y f, dn_y (h.up h3 (Int.le_refl c) f)]; simp [b2]; omega
      | false => rw [up_n f, mnl (by omega), up_n (h.ge h3), mnr h3]; simp [b2]
    | false =>
      rw [h.no (Int.le_refl b) (show c ≤ M by omega) e, dn_n e, mxl (by omega), dn_n (h.no (show b ≤ c by omega) (Int.le_refl M) e), mxl (by omega)]
      simp [b2]
theorem g_btw (h : Up U) {s : S} {b a r : Int} (o : Seen U s b) (l : List Int) (z : Btw a b r) : g U s (a :: r :: l) = g U s (r :: l) := by
  rcases (show (b ≤ a ∧ a ≤ r) ∨ (r ≤ a ∧ a ≤ b) from by unfold Btw at z; omega) with ⟨h1, h2⟩ | ⟨h1, h2⟩
  · cases s with
    | no => exact o.elim
    | up m =>
      obtain ⟨o1, o2⟩ := o
      cases e : U m a with
      | true => rw [up_y e, dn_n (h.ge h2), mxr h2, up_y (h.up (Int.le_refl m) h2 e)]
      | false => rw [up_n e, mnl (by omega)]
    | dn M =>
      obtain ⟨o1, o2⟩ := o
      rw [dn_n (h.no h1 (Int.le_refl M) o2)]
      by_cases q : a ≤ M
      · rw [mxl q]
      · rw [mxr (by omega), dn_n (h.ge h2), mxr h2, dn_n (h.ge (show M ≤ r by omega)), mxr (show M ≤ r by omega)]
    | bo m M =>
      obtain ⟨o1, o2, o3⟩ := o
      have n3 := h.no (show m ≤ r by omega) (Int.le_refl M) o3
      cases e : U m a with
      | true => rw [bo_u e, dn_n (h.ge h2), mxr h2, bo_u (h.up (Int.le_refl m) h2 e)]
      | false =>
        rw [bo_n e (h.no (show m ≤ a by omega) (Int.le_refl M) o3), mnl (by omega)]
        cases k : U m r with
        | true => rw [bo_u k, bo_u k]
        | false =>
          have e3 : U r (mx M a) = false := by
            unfold mx; split
            · exact h.ge h2
            · exact n3
          rw [bo_n k e3, bo_n k n3]
          have : mx (mx M a) r = mx M r := by unfold mx; repeat (first | split | omega)
          rw [this]
  · cases s with
    | no => exact o.elim
    | dn M =>
      obtain ⟨o1, o2⟩ := o
      cases e : U a M with
      | true => rw [dn_y e, up_n (h.ge h1), mnr h1, dn_y (h.up h1 (Int.le_refl M) e)]
      | false => rw [dn_n e, mxl (by omega)]
    | up m =>
      obtain ⟨o1, o2⟩ := o
      rw [up_n (h.no (Int.le_refl m) h2 o2)]
      by_cases q : m ≤ a
      · rw [mnl q]
      · rw [mnr (by omega), up_n (h.ge h1), mnr h1, up_n (h.ge (show r ≤ m by omega)), mnr (show r ≤ m by omega)]
    | bo m M =>
      obtain ⟨o1, o2, o3⟩ := o
      have n3 := h.no (Int.le_refl m) (show r ≤ M by omega) o3
      have n4 := h.no (Int.le_refl m) (show a ≤ M by omega) o3
      cases e : U a M with
      | true => rw [bo_d n4 e, up_n (h.ge h1), mnr h1, bo_d n3 (h.up h1 (Int.le_refl M) e)]
      | false =>
        rw [bo_n n4 e, mxl (by omega)]
        have e3 : U (mn m a) r = false := by
          unfold mn; split
          · exact n3
          · exact h.ge h1
        cases k : U r M with
        | true => rw [bo_d e3 k, bo_d n3 k]
        | false =>
          rw [bo_n e3 k, bo_n n3 k]
          have : mn (mn m a) r = mn m r := by unfold mn; repeat (first | split | omega)
          rw [this]
theorem g_cons (s : S) (r : Int) (l : List Int) : g U s (r :: l) = ky U s r + g U (nx U s r) l := rfl
/-- how many ranges are in the set -/
def nU (U : Int → Int → Bool) (rs : List (Int × Int)) : Nat := rs.countP fun r => U r.1 r.2
theorem nU_cons (r : Int × Int) (rs : List (Int × Int)) : nU U (r :: rs) = b2 (U r.1 r.2) + nU U rs := by
  unfold nU b2
  rw [List.countP_cons]
  omega
theorem g_step (h : Up U) {p q : List Int} {c : Int × Int} (t : Step p c q) : ZZ p → ∀ s, Ok U s → g U s p = g U s q + 2 * b2 (U c.1 c.2) := by
  induction t with
  | @here a b c d post t =>
    intro z s o
    have sn := (seen_nx h (a := a) o).1
    rcases (taken_iff z.four).mp t with ⟨x1, x2, x3, x4, x5⟩ | ⟨x1, x2, x3, x4, x5⟩
    · rw [rg_down x2, g_cons, g_cons s a (d :: post), four_up h sn post x4 x2 x5]; dsimp only; omega
    · rw [rg_up x2, g_cons, g_cons s a (d :: post), four_down h sn post x4 x2 x5]; dsimp only; omega
  | @there x p q cy t ih =>
    intro z s o
    rw [g_cons, g_cons, ih z.tail _ (seen_nx h o).2]
    omega
theorem g_run (h : Up U) {p q : List Int} {cs : List (Int × Int)} (t : Run p cs q) : ZZ p → ∀ s, Ok U s → g U s p = g U s q + 2 * nU U cs := by
  induction t with
  | nil p => intro _ s _; rfl
  | cons t _ ih =>
    intro z s o
    rw [g_step h t z s o, ih (ZZ.step t z) s o, nU_cons]
    omega
theorem g_tq (h : Up U) : ∀ (l : List Int) (s : S) (b a : Int), Seen U s b → Ok U s → g U s (tq b a l) = g U s (a :: l)
  | [], _, _, _, _, _ => rfl
  | r :: l, s, b, a, o, k => by
    simp only [tq]
    by_cases e : a = r
    · rw [if_pos e, g_tq h l s b a o k, ← e, g_cons, g_cons s a (a :: l), g_same h (seen_nx h k).1]
    · rw [if_neg e]
      by_cases bt : Btw a b r
      · rw [if_pos bt, g_tq h l s b r o k, g_btw h o l bt]
      · rw [if_neg bt, g_cons, g_cons s a (r :: l), g_tq h l _ a r (seen_nx h k).1 (seen_nx h k).2]
theorem g_ts (h : Up U) : ∀ (l : List Int) (s : S) (a : Int), Ok U s → g U s (ts a l) = g U s (a :: l)
  | [], _, _, _ => rfl
  | r :: l, s, a, k => by
    simp only [ts]
    by_cases e : a = r
    · rw [if_pos e, g_ts h l s a k, ← e, g_cons, g_cons s a (a :: l), g_same h (seen_nx h k).1]
    · rw [if_neg e, g_cons, g_cons s a (r :: l), g_tq h l _ a r (seen_nx h k).1 (seen_nx h k).2]
theorem g_tp (h : Up U) (ns : List Int) : g U .no (tp ns) = g U .no ns := by
  cases ns with
  | nil => rfl
  | cons a l => exact g_ts h l .no a trivial
theorem dn_bo (h : Up U) {M : Int} : ∀ (r : List Int) (m : Int), (∀ w ∈ r, w ≤ M) → m ≤ M → U m M = false → g U (.dn M) r = g U (.bo m M) r
  | [], _, _, _, _ => rfl
  | w :: r, m, hw, hm, e => by
    have w1 := hw w List.mem_cons_self
    have e1 := h.no (Int.le_refl m) w1 e
    cases k : U w M with
    | true => rw [dn_y k, bo_d e1 k]
    | false =>
      rw [dn_n k, bo_n e1 k, mxl w1]
      refine dn_bo h r _ (fun v hv => hw v (List.mem_cons_of_mem _ hv)) ?_ ?_
      · have := mn1 m w; omega
      · unfold mn; split
        · exact e
        · exact k
theorem up_bo (h : Up U) {m : Int} : ∀ (r : List Int) (M : Int), (∀ w ∈ r, m ≤ w) → m ≤ M → U m M = false → g U (.up m) r = g U (.bo m M) r
  | [], _, _, _, _ => rfl
  | w :: r, M, hw, hm, e => by
    have w1 := hw w List.mem_cons_self
    have e1 := h.no w1 (Int.le_refl M) e
    cases k : U m w with
    | true => rw [up_y k, bo_u k]
    | false =>
      rw [up_n k, bo_n k e1, mnl w1]
      refine up_bo h r _ (fun v hv => hw v (List.mem_cons_of_mem _ hv)) ?_ ?_
      · have := mx1 M w; omega
      · unfold mx; split
        · exact k
        · exact e
theorem bo_none (h : Up U) {u v : Int} (e : U u v = false) : ∀ (r : List Int) (m M : Int), (∀ w ∈ r, u ≤ w ∧ w ≤ v) → u ≤ m → M ≤ v → g U (.bo m M) r = 0
  | [], _, _, _, _, _ => rfl
  | w :: r, m, M, hw, hm, hM => by
    have w1 := hw w List.mem_cons_self
    rw [bo_n (h.no hm w1.2 e) (h.no w1.1 hM e)]
    refine bo_none h e r _ _ (fun x hx => hw x (List.mem_cons_of_mem _ hx)) ?_ ?_
    · unfold mn; split <;> omega
    · unfold mx; split <;> omega
theorem con_one (h : Up U) {x y : Int} {r : List Int} (c : In (if x < y then x else y) (if x < y then y else x) (x :: y :: r)) (ne : x ≠ y) : g U .no (x :: y :: r) = b2 (U (rg x y).1 (rg x y).2) + g U .no (y :: r) := by
  have ge := h.ge (Int.le_refl y)
  rcases (show x < y ∨ y < x by omega) with h1 | h1
  · rw [if_pos h1, if_pos h1] at c
    have cr : ∀ w ∈ r, x ≤ w ∧ w ≤ y := fun w hw => c w (List.mem_cons_of_mem _ (List.mem_cons_of_mem _ hw))
    rw [rg_up h1, no_1, no_1]
    show _ = b2 (U x y) + _
    cases e : U x y with
    | true => rw [bo_u e, dn_bo h r y (fun w hw => (cr w hw).2) (Int.le_refl y) ge]; simp [b2]
    | false => rw [bo_n e (h.ge (show x ≤ y by omega)), mnl (by omega), mxr (by omega), bo_none h e r x y cr (Int.le_refl _) (Int.le_refl _), bo_none h e r y y cr (by omega) (Int.le_refl _)]; simp [b2]
  · rw [if_neg (by omega), if_neg (by omega)] at c
    have cr : ∀ w ∈ r, y ≤ w ∧ w ≤ x := fun w hw => c w (List.mem_cons_of_mem _ (List.mem_cons_of_mem _ hw))
    rw [rg_down h1, no_1, no_1]
    show _ = b2 (U y x) + _
    have f := h.ge (show y ≤ x by omega)
    cases e : U y x with
    | true => rw [bo_d f e, up_bo h r y (fun w hw => (cr w hw).1) (Int.le_refl y) ge]; simp [b2]
    | false => rw [bo_n f e, mnr (by omega), mxl (by omega), bo_none h e r y x cr (Int.le_refl _) (Int.le_refl _), bo_none h e r y y cr (Int.le_refl _) (by omega)]; simp [b2]
theorem wide_one (h : Up U) {x y z : Int} {r : List Int} (k : (y < x ∧ x < z) ∨ (x < y ∧ z < x)) : g U .no (x :: y :: z :: r) = b2 (U (rg x y).1 (rg x y).2) + g U .no (y :: z :: r) := by
  rcases k with ⟨h1, h2⟩ | ⟨h1, h2⟩
  · rw [rg_down h1, no_1, no_1]
    show _ = b2 (U y x) + _
    have f := h.ge (show y ≤ x by omega)
    have fz := h.ge (show y ≤ z by omega)
    cases e : U y x with
    | true =>
      have k := h.up (Int.le_refl y) (show x ≤ z by omega) e
      rw [bo_d f e, up_y k, bo_u k]; simp [b2]
    | false =>
      rw [bo_n f e, mnr (by omega), mxl (by omega)]
      cases k : U y z with
      | true => rw [bo_u k, bo_u k]; simp [b2]
      | false => rw [bo_n k (h.ge (show x ≤ z by omega)), bo_n k fz, mxr (show x ≤ z by omega), mxr (show y ≤ z by omega)]; simp [b2]
  · rw [rg_up h1, no_1, no_1]
    show _ = b2 (U x y) + _
    have f := h.ge (show x ≤ y by omega)
    have fz := h.ge (show z ≤ y by omega)
    cases e : U x y with
    | true =>
      have k := h.up (show z ≤ x by omega) (Int.le_refl y) e
      rw [bo_u e, dn_y k, bo_d fz k]; simp [b2]
    | false =>
      rw [bo_n e f, mnl (by omega), mxr (by omega)]
      cases k : U z y with
      | true => rw [bo_d (h.ge (show z ≤ x by omega)) k, bo_d fz k]; simp [b2]
      | false => rw [bo_n (h.ge (show z ≤ x by omega)) k, bo_n fz k, mnr (show z ≤ x by omega), mnr (show z ≤ y by omega)]; simp [b2]
theorem nf_g (h : Up U) : ∀ (ps : List Int), ZZ ps → NF ps → g U .no ps = nU U (sw ps)
  | [], _, _ => rfl
  | [x], _, _ => rfl
  | [x, y], zz, _ => by
    have zz : x ≠ y := zz
    show _ = nU U [rg x y]
    rw [nU_cons, con_one h (Con.inside (r := []) (x := x) (y := y) (show Con [x, y] from trivial) zz) zz]
    rfl
  | x :: y :: z :: r, zz, n => by
    have ih := nf_g h (y :: z :: r) zz.2 (fun c q s => n _ _ (.there s))
    show _ = nU U (rg x y :: sw (y :: z :: r))
    rw [nU_cons, ← ih]
    have z1 := zz.1
    by_cases k : (y < x ∧ z ≤ x) ∨ (x < y ∧ x ≤ z)
    · exact con_one h (Con.inside (nf_con zz n k) (by omega)) (by omega)
    · exact wide_one h (by omega)
/-- the half-cycles of a load that are in the set -/
theorem count_g (h : Up U) {ns rs : List Int} {cs : List (Int × Int)} (t : Run (tp ns) cs rs) (n : NF rs) : g U .no ns = 2 * nU U cs + nU U (sw rs) := by
  rw [← g_tp h, g_run h t (tp_zz ns) .no trivial, nf_g h rs (t.zz (tp_zz ns)) n]
  omega
/-! readings left out -/
def R (U : Int → Int → Bool) : S → S → Nat → Prop
  | .no, .no, k => k = 0
  | .no, .bo m M, k => k = 0 ∧ m ≤ M ∧ U m M = false
  | .no, .up _, k => 1 ≤ k
  | .no, .dn _, k => 1 ≤ k
  | .bo m M, .bo m2 M2, k => k = 0 ∧ m2 ≤ m ∧ M ≤ M2 ∧ m ≤ M ∧ U m2 M2 = false
  | .bo m _, .up m2, k => 2 ≤ k ∨ (k = 1 ∧ m2 ≤ m)
  | .bo _ M, .dn M2, k => 2 ≤ k ∨ (k = 1 ∧ M ≤ M2)
  | .up m, .up m2, k => 2 ≤ k ∨ m2 ≤ m
  | .dn M, .dn M2, k => 2 ≤ k ∨ M ≤ M2
  | .up _, .dn _, k => 1 ≤ k
  | .dn _, .up _, k => 1 ≤ k
  | _, _, _ => False

theorem R_skip (h : Up U) {s t : S} {k : Nat} (r : Int) (hR : R U s t k) : R U s (nx U t r) (k + ky U t r) := by
  have hup := @Up.up U h
  have hlt := @Up.lt U h
  cases s <;> cases t <;> simp only [R] at hR <;> (try exact hR.elim) <;> simp only [nx, ky] <;> (repeat' split) <;> simp only [R, mn, mx] <;> grind
theorem R_both (h : Up U) {s t : S} {k : Nat} (r : Int) (hR : R U s t k) : ky U s r ≤ k + ky U t r ∧ R U (nx U s r) (nx U t r) (k + ky U t r - ky U s r) := by
  have hup := @Up.up U h
  have hlt := @Up.lt U h
  cases s <;> cases t <;> simp only [R] at hR <;> (try exact hR.elim) <;> simp only [nx, ky] <;> (repeat' split) <;> simp only [R, mn, mx] <;> grind
theorem g_sub (h : Up U) {l m : List Int} (t : l.Sublist m) : ∀ (s u : S) (k : Nat), R U s u k → g U s l ≤ k + g U u m := by
  induction t with
  | slnil => intro s u k _; exact Nat.zero_le _
  | cons r _ ih =>
    intro s u k hR
    have := ih _ _ _ (R_skip h r hR)
    rw [g_cons u]
    omega
  | cons_cons r _ ih =>
    intro s u k hR
    obtain ⟨e, hR2⟩ := R_both h r hR
    have := ih _ _ _ hR2
    rw [g_cons u, g_cons s]
    omega
theorem sub_le (h : Up U) {l m : List Int} (t : l.Sublist m) : g U .no l ≤ g U .no m := by
  have := g_sub h t .no .no 0 rfl
  omega
end
end K52

/-! amounts and wear of tables -/
namespace K52b
open KM PM RM RN RC K52
def top : List Int → Int
  | [] => 0
  | n :: ns => ns.foldl max n
theorem fold_max : ∀ (l : List Int) (n t : Int), t < l.foldl max n ↔ t < n ∨ ∃ x ∈ l, t < x
  | [], n, t => by simp
  | a :: l, n, t => by
    rw [List.foldl_cons, fold_max l (max n a) t]
    constructor
    · rintro (h | ⟨x, hx, h⟩)
      · rcases (show t < n ∨ t < a by omega) with h | h
        · exact .inl h
        · exact .inr ⟨a, List.mem_cons_self, h⟩
      · exact .inr ⟨x, List.mem_cons_of_mem _ hx, h⟩
    · rintro (h | ⟨x, hx, h⟩)
      · exact .inl (by omega)
      · rcases List.mem_cons.mp hx with e | hx
        · subst e; exact .inl (by omega)
        · exact .inr ⟨x, hx, h⟩
theorem top_lt (l : List Int) {t : Int} (h : 0 ≤ t) : t < top l ↔ ∃ x ∈ l, t < x := by
  cases l with
  | nil =>
    show t < 0 ↔ _
    constructor
    · intro z; omega
    · rintro ⟨x, hx, _⟩; exact (List.not_mem_nil hx).elim
  | cons n ns =>
    show t < ns.foldl max n ↔ _
    rw [fold_max]
    constructor
    · rintro (z | ⟨x, hx, z⟩)
      · exact ⟨n, List.mem_cons_self, z⟩
      · exact ⟨x, List.mem_cons_of_mem _ hx, z⟩
    · rintro ⟨x, hx, z⟩
      rcases List.mem_cons.mp hx with e | hx
      · subst e; exact .inl z
      · exact .inr ⟨x, hx, z⟩
theorem top_nonneg {l : List Int} (h : ∀ x ∈ l, 0 ≤ x) : 0 ≤ top l := by
  cases l with
  | nil => exact Int.le_refl _
  | cons n ns =>
    have h0 := h n List.mem_cons_self
    apply Classical.byContradiction
    intro z
    have := (fold_max ns n (n - 1)).mpr (.inl (by omega))
    have e : top (n :: ns) = ns.foldl max n := rfl
    omega
abbrev Ent := Int × Int × Int
def Good (T : List Ent) : Prop := ∀ e ∈ T, e.1 < e.2.1 ∧ 0 ≤ e.2.2
def has (lo hi : Int) (e : Ent) : Bool := decide (lo ≤ e.1) && decide (e.2.1 ≤ hi)
def amts (T : List Ent) (lo hi : Int) : List Int := (T.filter (has lo hi)).map (·.2.2)
def amt (T : List Ent) (lo hi : Int) : Int := top (amts T lo hi)
theorem has_iff {lo hi : Int} {e : Ent} : has lo hi e = true ↔ lo ≤ e.1 ∧ e.2.1 ≤ hi := by unfold has; simp
theorem amt_lt (T : List Ent) (lo hi : Int) {t : Int} (h : 0 ≤ t) : t < amt T lo hi ↔ ∃ e ∈ T, (lo ≤ e.1 ∧ e.2.1 ≤ hi) ∧ t < e.2.2 := by
  unfold amt
  rw [top_lt _ h]
  unfold amts
  constructor
  · rintro ⟨x, hx, z⟩
    obtain ⟨e, he, rfl⟩ := List.mem_map.mp hx
    obtain ⟨e1, e2⟩ := List.mem_filter.mp he
    exact ⟨e, e1, has_iff.mp e2, z⟩
  · rintro ⟨e, he, h2, z⟩
    exact ⟨e.2.2, List.mem_map.mpr ⟨e, List.mem_filter.mpr ⟨he, has_iff.mpr h2⟩, rfl⟩, z⟩
theorem amt_nonneg {T : List Ent} (g : Good T) (lo hi : Int) : 0 ≤ amt T lo hi := by
  refine top_nonneg fun x hx => ?_
  obtain ⟨e, he, rfl⟩ := List.mem_map.mp hx
  exact (g e (List.mem_filter.mp he).1).2
theorem same_lt {a b : Int} (h1 : 0 ≤ a) (h2 : 0 ≤ b) (h : ∀ t, 0 ≤ t → (t < a ↔ t < b)) : a = b := by
  apply Classical.byContradiction
  intro z
  rcases (show a < b ∨ b < a by omega) with k | k
  · have := (h a h1).mpr k; omega
  · have := (h b h2).mp k; omega
theorem Good.app {T S : List Ent} (g : Good T) (h : Good S) : Good (T ++ S) := fun e he => (List.mem_append.mp he).elim (g e) (h e)
theorem Good.rev {T : List Ent} (g : Good T) : Good T.reverse := fun e he => g e (List.mem_reverse.mp he)
theorem good_one {e : Ent} (h : e.1 < e.2.1 ∧ 0 ≤ e.2.2) : Good [e] := fun f hf => by rw [List.mem_singleton.mp hf]; exact h
theorem amt_app {T : List Ent} (g : Good T) {e : Ent} (k : e.1 < e.2.1 ∧ 0 ≤ e.2.2) (lo hi : Int) : amt (T ++ [e]) lo hi = if (decide (lo ≤ e.1) && decide (e.2.1 ≤ hi)) = true then (if e.2.2 > amt T lo hi then e.2.2 else amt T lo hi) else amt T lo hi := by
  have n1 := amt_nonneg g lo hi
  have n2 := amt_nonneg (g.app (good_one k)) lo hi
  refine same_lt n2 (by split <;> (try split) <;> omega) fun t ht => ?_
  have f := amt_lt T lo hi ht
  rw [amt_lt _ lo hi ht]
  constructor
  · rintro ⟨x, hx, hh, z⟩
    rcases List.mem_append.mp hx with m | m
    · have := f.mpr ⟨x, m, hh, z⟩
      split <;> (try split) <;> omega
    · rw [List.mem_singleton.mp m] at hh z
      rw [if_pos (by simpa using hh)]
      split <;> omega
  · intro z
    have old : t < amt T lo hi → ∃ x ∈ T ++ [e], (lo ≤ x.1 ∧ x.2.1 ≤ hi) ∧ t < x.2.2 := fun q => by
      obtain ⟨x, m, hh, z⟩ := f.mp q
      exact ⟨x, List.mem_append_left _ m, hh, z⟩
    split at z
    · rename_i hh
      split at z
      · exact ⟨e, List.mem_append_right _ List.mem_cons_self, by simpa using hh, z⟩
      · exact old z
    · exact old z
theorem amt_idle {T : List Ent} (g : Good T) {e : Ent} (k : e.1 < e.2.1 ∧ e.2.2 = 0) (lo hi : Int) : amt (T.reverse ++ T ++ [e]) lo hi = amt T lo hi := by
  refine same_lt (amt_nonneg ((g.rev.app g).app (good_one ⟨k.1, by omega⟩)) lo hi) (amt_nonneg g lo hi) fun t ht => ?_
  rw [amt_lt _ lo hi ht, amt_lt _ lo hi ht]
  constructor
  · rintro ⟨x, hx, hh, z⟩
    rcases List.mem_append.mp hx with m | m
    · rcases List.mem_append.mp m with m | m
      · exact ⟨x, List.mem_reverse.mp m, hh, z⟩
      · exact ⟨x, m, hh, z⟩
    · rw [List.mem_singleton.mp m] at z
      omega
  · rintro ⟨x, m, hh, z⟩
    exact ⟨x, List.mem_append_left _ (List.mem_append_right _ m), hh, z⟩
theorem amt_mono {T : List Ent} (g : Good T) {lo hi lo2 hi2 : Int} (h1 : lo ≤ lo2) (h2 : hi2 ≤ hi) : amt T lo2 hi2 ≤ amt T lo hi := by
  apply Classical.byContradiction
  intro z
  have n := amt_nonneg g lo hi
  obtain ⟨x, m, hh, k⟩ := (amt_lt T lo2 hi2 n).mp (by omega)
  have := (amt_lt T lo hi n).mpr ⟨x, m, by omega, k⟩
  omega
def wear (T : List Ent) (rs : List (Int × Int)) : Int := (rs.map fun r => amt T r.1 r.2).sum
theorem wear_app (T : List Ent) (rs ss : List (Int × Int)) : wear T (rs ++ ss) = wear T rs + wear T ss := by
  unfold wear
  rw [List.map_append, List.sum_append]
def Ut (T : List Ent) (t : Nat) (a b : Int) : Bool := decide ((t : Int) < amt T a b)
theorem up_t {T : List Ent} (g : Good T) (t : Nat) : Up (Ut T t) := by
  constructor
  · intro a b c d h1 h2 h
    have h := of_decide_eq_true h
    have := amt_mono g h1 h2
    exact decide_eq_true (by omega)
  · intro a b h
    have h := of_decide_eq_true h
    obtain ⟨x, m, hh, _⟩ := (amt_lt T a b (Int.natCast_nonneg t)).mp h
    have := (g x m).1
    omega
def cut (T : List Ent) (M : Nat) (rs : List (Int × Int)) : Int := (rs.map fun r => if amt T r.1 r.2 ≤ M then amt T r.1 r.2 else (M : Int)).sum
theorem cut_succ {T : List Ent} (g : Good T) (M : Nat) : ∀ rs : List (Int × Int), cut T (M + 1) rs = cut T M rs + nU (Ut T M) rs
  | [] => rfl
  | r :: rs => by
    have ih := cut_succ g M rs
    rw [nU_cons]
    show (if amt T r.1 r.2 ≤ ((M + 1 : Nat) : Int) then amt T r.1 r.2 else ((M + 1 : Nat) : Int)) + cut T (M + 1) rs = (if amt T r.1 r.2 ≤ (M : Int) then amt T r.1 r.2 else (M : Int)) + cut T M rs + _
    rw [ih]
    have e : Ut T M r.1 r.2 = decide ((M : Int) < amt T r.1 r.2) := rfl
    by_cases h : (M : Int) < amt T r.1 r.2
    · have e2 : b2 (Ut T M r.1 r.2) = 1 := by rw [e, decide_eq_true h]; rfl
      rw [e2, if_neg (by omega : ¬ amt T r.1 r.2 ≤ (M : Int))]
      split <;> omega
    · have e2 : b2 (Ut T M r.1 r.2) = 0 := by rw [e, decide_eq_false h]; rfl
      rw [e2, if_pos (by omega), if_pos (by omega)]
      omega
theorem cut_zero {T : List Ent} (g : Good T) : ∀ rs : List (Int × Int), cut T 0 rs = 0
  | [] => rfl
  | r :: rs => by
    have ih := cut_zero g rs
    have := amt_nonneg g r.1 r.2
    show (if amt T r.1 r.2 ≤ ((0 : Nat) : Int) then amt T r.1 r.2 else ((0 : Nat) : Int)) + cut T 0 rs = 0
    rw [ih]
    split <;> omega
theorem wear_nonneg {T : List Ent} (g : Good T) : ∀ rs : List (Int × Int), 0 ≤ wear T rs
  | [] => Int.le_refl _
  | r :: rs => by
    have ih := wear_nonneg g rs
    have := amt_nonneg g r.1 r.2
    show 0 ≤ amt T r.1 r.2 + wear T rs
    omega
theorem cut_all {T : List Ent} (g : Good T) (M : Nat) : ∀ rs : List (Int × Int), wear T rs ≤ M → cut T M rs = wear T rs
  | [], _ => rfl
  | r :: rs, h => by
    have n1 := wear_nonneg g rs
    have n2 := amt_nonneg g r.1 r.2
    have h2 : amt T r.1 r.2 + wear T rs ≤ M := h
    have ih := cut_all g M rs (by omega)
    show (if amt T r.1 r.2 ≤ (M : Int) then amt T r.1 r.2 else (M : Int)) + cut T M rs = amt T r.1 r.2 + wear T rs
    rw [ih, if_pos (by omega)]
theorem wear_le {T : List Ent} (g : Good T) {rs ss : List (Int × Int)} (h : ∀ U, Up U → nU U rs ≤ nU U ss) : wear T rs ≤ wear T ss := by
  have key : ∀ M, cut T M rs ≤ cut T M ss := by
    intro M
    induction M with
    | zero => rw [cut_zero g, cut_zero g]; exact Int.le_refl _
    | succ M ih =>
      rw [cut_succ g, cut_succ g]
      have := h _ (up_t g M)
      omega
  have n1 := wear_nonneg g rs
  have n2 := wear_nonneg g ss
  have k := key (wear T rs + wear T ss).toNat
  rw [cut_all g _ rs (by omega), cut_all g _ ss (by omega)] at k
  exact k
/-- a load with readings left out wears no more -/
theorem wear_sub {T : List Ent} (g : Good T) {less load : List Int} (t : less.Sublist load) {cs ds cs2 ds2 : List (Int × Int)} {rs rs2 : List Int} {hs hs2 : List (Int × Int)}
    (r : Run (tp load) cs rs) (n : NF rs) (p : ds.Perm cs) (h : hs.Perm (ds ++ ds ++ sw rs)) (r2 : Run (tp less) cs2 rs2) (n2 : NF rs2) (p2 : ds2.Perm cs2) (h2 : hs2.Perm (ds2 ++ ds2 ++ sw rs2)) : wear T hs2 ≤ wear T hs := by
  refine wear_le g fun U up => ?_
  have c1 := count_g up r n
  have c2 := count_g up r2 n2
  have := sub_le up t
  have e1 : nU U hs = 2 * nU U cs + nU U (sw rs) := by
    have q : nU U ds = nU U cs := p.countP_eq _
    have : nU U hs = nU U (ds ++ ds ++ sw rs) := h.countP_eq _
    rw [this]
    unfold nU at *
    rw [List.countP_append, List.countP_append, q]
    omega
  have e2 : nU U hs2 = 2 * nU U cs2 + nU U (sw rs2) := by
    have q : nU U ds2 = nU U cs2 := p2.countP_eq _
    have : nU U hs2 = nU U (ds2 ++ ds2 ++ sw rs2) := h2.countP_eq _
    rw [this]
    unfold nU at *
    rw [List.countP_append, List.countP_append, q]
    omega
  omega
end K52b

/-! max(xs, default=d) of a list of ints -/
namespace GM
open PySem PySem.Spec PyProof.Rows L2 PH
def topD (d : Int) : List Int → Int
  | [] => d
  | n :: ns => ns.foldl max n
theorem alike_ints (ns : List Int) : PySem.W.AlikeAll (ns.map PyData.int) := by
  refine ⟨fun x hx y hy => ?_, fun x hx => ?_⟩
  · obtain ⟨a, _, rfl⟩ := List.mem_map.mp hx
    obtain ⟨b, _, rfl⟩ := List.mem_map.mp hy
    rfl
  · obtain ⟨a, _, rfl⟩ := List.mem_map.mp hx
    intro h
    cases h
theorem depth_ints : ∀ ns : List Int, PyData.depthAll (ns.map PyData.int) ≤ 1
  | [] => Nat.zero_le _
  | n :: ns => by
    have := depth_ints ns
    simp only [List.map_cons, PyData.depthAll, PyData.depth]
    omega
section
variable {X : Cx}
def rMaxD (K : PySem.W.Frag) : List V → List V → Hp → VK → Prop := fun vs zs H Q => ∃ (a : Addr) (ns : List Int) (d : Int), vs = [V.ref a] ∧ zs = [V.int d] ∧ SqL K H a (ns.map V.int) ∧ Q (.int (topD d ns)) H
theorem cr_maxD (hc : X.calm = true) (hu : X.A.units + 100 < cLine) : CallRK X (.builtin "max") [Str.ofString "default"] (rMaxD X.K) := by
  intro pins s σ H xs zs us ws Q I rx rz h
  obtain ⟨a, ns, d, rfl, rfl, hs, q⟩ := h
  obtain ⟨its, rv, hl, _⟩ := I.list hs
  rw [Vals.ref1 rx]
  obtain ⟨t, rfl⟩ : ∃ t, ws = [Value.int d t] := by
    cases rz with
    | cons r1 r2 =>
      obtain ⟨t, rfl⟩ := r1
      cases r2
      exact ⟨t, rfl⟩
  have ra := ints_readAll s.heap rv.ints
  show wpAny _ _ (call (.builtin "max") [.ref a] [(Str.ofString "default", .int d t)]) _ _ s
  refine PySem.W.max_list_default (I.ok.hd hc) hl.isList ra (alike_ints ns) (by have := depth_ints ns; omega) (fun e h' tk hk => ?_) (fun y ys i v h' tk bs e hv rd hk => ?_)
  · have : ns = [] := by
      cases ns with
      | nil => rfl
      | cons _ _ => cases e
    subst this
    exact ⟨.int d, H, I.kept hk, ⟨_, rfl⟩, q⟩
  · cases ns with
    | nil => cases e
    | cons n ns =>
      cases e
      rw [PySem.W.maxD_ints] at rd
      cases rd with
      | int i t2 => exact ⟨.int _, H, I.kept hk, ⟨_, rfl⟩, q⟩
end
end GM

/-! walks and items of what is a list or a tuple; keyword-only parameters -/
namespace GB
open PySem PySem.Spec PyProof.Rows L2 PH KA
section
variable {X : Cx} {tg l : Expr} {tl : TE}
def iBoth (K : PySem.W.Frag) (tl : TE) : TI := fun σ H R => tl σ H fun x H1 => ∃ a, x = .ref a ∧ (((∃ xs, SqL K H1 a xs) ∧ R (Itl K a) H1) ∨ ((∃ xs, SqT K H1 a xs) ∧ R (Itt K a) H1))
theorem pi_both (hl : PE X l tl) : PI X tg l (iBoth X.K tl) := by
  refine ⟨fun pins s σ H R I h => ?_⟩
  refine thn (hl.run pins s σ H _ I h) fun v s1 ⟨x, H1, I1, r1, q1⟩ => ?_
  obtain ⟨a, e, q⟩ := q1
  subst e
  cases r1
  rcases q with ⟨⟨xs, hq⟩, q⟩ | ⟨⟨xs, hq⟩, q⟩
  · obtain ⟨its, rv, p, hz⟩ := I1.list hq
    refine wpAny_pyIter_list p.isList ?_
    refine ⟨s1.heap.objs.size, [s1.heap.objs.size], _, _, H1, rfl, I1.kept (t' := s1.toks) fun b o e => Heap.get?_push_of_some _ e, turn_list a _, ⟨_, Heap.get?_push_size _ rfl, rfl, rfl⟩, fun b hb => ?_, q⟩
    have e : b = s1.heap.objs.size := by simpa using hb
    subst e
    exact I1.fpOk (Nat.le_refl _) (I1.hok.fresh (Nat.le_refl _))
  · obtain ⟨its, rv, p, hz⟩ := I1.tuple hq
    refine wpAny_pyIter_tuple (show s1.heap.IsTuple a its.toArray from p) ?_
    refine ⟨s1.heap.objs.size, [s1.heap.objs.size], _, _, H1, rfl, I1.kept (t' := s1.toks) fun b o e => Heap.get?_push_of_some _ e, turn_tuple a _, ⟨_, Heap.get?_push_size _ rfl, rfl, rfl⟩, fun b hb => ?_, q⟩
    have e : b = s1.heap.objs.size := by simpa using hb
    subst e
    exact I1.fpOk (Nat.le_refl _) (I1.hok.fresh (Nat.le_refl _))
def rIxB (K : PySem.W.Frag) : R2 := fun x y H Q => ∃ p xs i v, x = .ref p ∧ y = .int i ∧ Sq K H p xs ∧ atI xs i = some v ∧ Q v H
theorem ix_both : IxR X (rIxB X.K) := by
  intro value slice pins s σ H x y v u Q I rx ry ⟨p, xs, i, z, e1, e2, hq, he, q⟩ hs
  rcases hq with hq | hq
  · exact ix_list value slice pins s σ H x y v u Q I rx ry ⟨p, xs, i, z, e1, e2, hq, he, q⟩ hs
  · exact ix_tup value slice pins s σ H x y v u Q I rx ry ⟨p, xs, i, z, e1, e2, hq, he, q⟩ hs
end
/-- f(e, .., k = v): the keyword-only parameter is named -/
theorem kbn1 {K : PySem.W.Frag} {x qual : Str} {params : Arguments} {body : List Stmt} {scope : Scope} {kws : List (Str × V)} {f : Addr} {fd : FuncData} {ps : List Str} {k : Str} (F : FunD K x qual params body scope [] kws f fd) (n : Nat)
    (h : ∀ (kV doc pm : Value) (an : Option Addr) (cdv ct : Value) (us : List Value) (w : Value), us.length = n → bindArgs (PySem.W.fnOf x qual params body scope .none kV doc pm an cdv ct) ⟨us, [(k, w)]⟩ = pure (ps.zip (us ++ [w]))) :
    KBn K fd ps n [k] (fun us ws => us ++ ws) (fun vs zs => vs ++ zs) := by
  obtain ⟨oc, od, dV, kV, doc, pm, an, cdv, ct, osl, rfl, lk, hcd, hD, hK⟩ := F.ex
  rcases hD with ⟨_, rfl⟩ | ⟨e, _⟩
  · refine ⟨fun s us ws X l1 l2 => ?_, fun r1 r2 => r1.append r2⟩
    match ws, l2 with
    | [w], _ => exact .of_eq (h kV doc pm an cdv ct us w l1)
  · exact absurd rfl e
end GB

/-! tables -/
namespace XT
open PySem PySem.Spec PyProof.Rows L2 KA KD PH PM RM K52b
abbrev sTable : Stmt := topS 13
abbrev sTI : Stmt := inClass sTable 0
abbrev sTA : Stmt := inClass sTable 2
abbrev sTW : Stmt := inClass sTable 3
theorem scTI : FnScope ["self", "entries", "low", "high", "amount"] ["self", "entries"] (defScope sTI) := ⟨rfl, rfl, rfl, by decide +kernel, rfl, by decide +kernel, by decide +kernel⟩
theorem scTA : FnScope ["self", "low", "high", "amounts", "amount", "start", "end"] ["self", "low", "high"] (defScope sTA) := ⟨rfl, rfl, rfl, by decide +kernel, rfl, by decide +kernel, by decide +kernel⟩
theorem scTW : FnScope ["self", "ranges", "low", "high"] ["self", "ranges"] (defScope sTW) := ⟨rfl, rfl, rfl, by decide +kernel, rfl, by decide +kernel, by decide +kernel⟩
theorem pairs_get {H : Hp} : ∀ {xs : List V} {rs : List (Int × Int)} {i : Nat} {x : V}, PairsAt H xs rs → xs[i]? = some x → ∃ p r, x = .ref p ∧ rs[i]? = some r ∧ H p = some (.tup [.int r.1, .int r.2])
  | x :: xs, r :: rs, 0, y, ⟨⟨p, h1, h2⟩, _⟩, e => ⟨p, r, by rw [← h1]; exact (Option.some.inj e).symm, rfl, h2⟩
  | x :: xs, r :: rs, i + 1, y, ⟨_, h⟩, e => pairs_get (xs := xs) (rs := rs) (i := i) h e
  | [], [], _, _, _, e => by simp at e
  | [], _ :: _, _, _, h, _ => h.elim
  | _ :: _, [], _, _, h, _ => h.elim
def tri (e : Ent) : HO := .tup [.int e.1, .int e.2.1, .int e.2.2]
/-- a list's items are entries -/
def TripsAt (H : Hp) : List V → List Ent → Prop
  | [], [] => True
  | x :: xs, e :: es => (∃ p, x = .ref p ∧ H p = some (tri e)) ∧ TripsAt H xs es
  | _, _ => False
theorem TripsAt.length {H : Hp} : ∀ {xs : List V} {es : List Ent}, TripsAt H xs es → xs.length = es.length
  | [], [], _ => rfl
  | _ :: _, _ :: _, h => by simp [h.2.length]
  | [], _ :: _, h => h.elim
  | _ :: _, [], h => h.elim
theorem TripsAt.get {H : Hp} : ∀ {xs : List V} {es : List Ent} {i : Nat} {x : V}, TripsAt H xs es → xs[i]? = some x → ∃ p e, x = .ref p ∧ es[i]? = some e ∧ H p = some (tri e)
  | x :: xs, e :: es, 0, y, ⟨⟨p, h1, h2⟩, _⟩, k => ⟨p, e, by rw [← h1]; exact (Option.some.inj k).symm, rfl, h2⟩
  | x :: xs, e :: es, i + 1, y, ⟨_, h⟩, k => TripsAt.get (xs := xs) (es := es) (i := i) h k
  | [], [], _, _, _, k => by simp at k
  | [], _ :: _, _, _, h, _ => h.elim
  | _ :: _, [], _, _, h, _ => h.elim
theorem TripsAt.map {H H' : Hp} (k : ∀ p e, H p = some (tri e) → H' p = some (tri e)) : ∀ {xs : List V} {es : List Ent}, TripsAt H xs es → TripsAt H' xs es
  | [], [], _ => trivial
  | _ :: _, _ :: _, ⟨⟨p, h1, h2⟩, h⟩ => ⟨⟨p, h1, k p _ h2⟩, TripsAt.map k h⟩
  | [], _ :: _, h => h.elim
  | _ :: _, [], h => h.elim
theorem TripsAt.same {H H' : Hp} {xs : List V} {es : List Ent} (h : TripsAt H xs es) (s : Same H H') : TripsAt H' xs es := h.map fun p e q => s _ _ q
theorem TripsAt.but {H H' : Hp} {D : Addr} {acc : List V} {xs : List V} {es : List Ent} (h : TripsAt H xs es) (k : ∀ b o, b ≠ D → H b = some o → H' b = some o) (hD : H D = some (.lst acc)) : TripsAt H' xs es := h.map fun p e q => k p _ (fun z => by rw [z, hD] at q; cases q) q
theorem TripsAt.ch {H H' : Hp} {f : Addr} {xs : List V} {es : List Ent} (h : TripsAt H xs es) (c : Ch f H H') (fe : ∃ acc, H f = some (.lst acc)) : TripsAt H' xs es := h.map fun p e q => by
  obtain ⟨acc, ha⟩ := fe
  exact c _ _ (fun z => by rw [z, ha] at q; cases q) q
theorem TripsAt.app {H : Hp} : ∀ {xs ys : List V} {es fs : List Ent}, TripsAt H xs es → TripsAt H ys fs → TripsAt H (xs ++ ys) (es ++ fs)
  | [], _, [], _, _, g => g
  | _ :: _, _, _ :: _, _, ⟨h1, h⟩, g => ⟨h1, TripsAt.app h g⟩
  | [], _, _ :: _, _, h, _ => h.elim
  | _ :: _, _, [], _, h, _ => h.elim
theorem trips_one {H : Hp} {p : Addr} {e : Ent} (h : H p = some (tri e)) : TripsAt H [.ref p] [e] := ⟨⟨p, rfl, h⟩, trivial⟩
theorem TripsAt.rev {H : Hp} : ∀ {xs : List V} {es : List Ent}, TripsAt H xs es → TripsAt H xs.reverse es.reverse
  | [], [], _ => trivial
  | x :: xs, e :: es, ⟨⟨p, h1, h2⟩, h⟩ => by
    rw [List.reverse_cons, List.reverse_cons, h1]
    exact (TripsAt.rev h).app (trips_one h2)
  | [], _ :: _, h => h.elim
  | _ :: _, [], h => h.elim
/-- a table stands at x -/
def TabAt (H : Hp) (C x : Addr) (T : List Ent) : Prop := ∃ (dx t : Addr) (ys : List V), H x = some (.ins C dx [("entries", .ref t)]) ∧ H t = some (.tup ys) ∧ TripsAt H ys T
theorem TabAt.same {H H' : Hp} {C x : Addr} {T : List Ent} (h : TabAt H C x T) (s : Same H H') : TabAt H' C x T := by
  obtain ⟨dx, t, ys, h1, h2, h3⟩ := h
  exact ⟨dx, t, ys, s _ _ h1, s _ _ h2, h3.same s⟩
theorem TabAt.ch {H H' : Hp} {C x f : Addr} {T : List Ent} (h : TabAt H C x T) (c : Ch f H H') (fe : ∃ acc, H f = some (.lst acc)) : TabAt H' C x T := by
  obtain ⟨dx, t, ys, h1, h2, h3⟩ := h
  obtain ⟨acc, ha⟩ := id fe
  exact ⟨dx, t, ys, c _ _ (fun z => by rw [z, ha] at h1; cases h1) h1, c _ _ (fun z => by rw [z, ha] at h2; cases h2) h2, h3.ch c fe⟩
structure Tbl (K : PySem.W.Frag) (C : Addr) : Prop where
  cl : Cls K C
  nE : NoAttr K C "entries"
theorem hu_of {k : Nat} {A : Around} (r : Room k A) : A.units + 100 < cLine := by have := r.un; omega
section
variable {P : Program} {w : World} {K : PySem.W.Frag} {mg : Str → Option Value} {base : Heap} {C : Addr}
def spTI (K : PySem.W.Frag) (C : Addr) : Sp := fun vs H Q _ => ∃ (x c dx : Addr) (xs : List V) (T : List Ent), vs = [.ref x, .ref c] ∧ H x = some (.ins C dx []) ∧ Sq K H c xs ∧ TripsAt H xs T ∧ T.length ≤ 500 ∧
  ∀ H', (∀ b o, b ≠ x → H b = some o → H' b = some o) → TabAt H' C x T → Q .non H'
theorem ok_TI {f : Addr} {fd : FuncData} {k : Nat} (F : Fun K "__init__" "Table.__init__" sTI f fd) (T : Tbl K C) (mt : mg "tuple" = none) : FnOk P w K mg base CX0 (k + 1) f fd ["self", "entries"] (spTI K C) := by
  refine F.ok scTI (fun vs H Q E h => ?_) (fun cdv A outer s H vs Q E hr h => ?_)
  · obtain ⟨x, c, dx, xs, T, rfl, _⟩ := h
    rfl
  · obtain ⟨x, c, dx, xs, es, rfl, hx, hc, tr, le, hq⟩ := h
    refine ⟨_, pss_one (ps_fld (pv 0) (pe_callTy call_tuple_of (by rfl) mt (by decide +kernel) (pa_cons (pe_lc (own := [("low", 2), ("high", 3), ("amount", 4)]) (g := gTup K 3 (gCons (gName 2) (gCons (gName 3) (gCons (gName 4) gNil)))) (tt := tYes) (te := tTup (tCons (tVar 2) (tCons (tVar 3) (tCons (tVar 4) tNil)))) rfl scTI.nd (GB.pi_both (pv 1)) (blkOk_by (own := [("low", 2), ("high", 3), ("amount", 4)]) (N := ["self", "entries", "low", "high", "amount"]) (sc := defScope sTI) (by decide +kernel))
        (fun _ _ _ _ _ => pg_tup rfl (pgs_cons (pg_name (i := 2) scTI.nd rfl (Or.inl rfl) (Or.inr rfl)) (pgs_cons (pg_name (i := 3) scTI.nd rfl (Or.inl rfl) (Or.inr rfl)) (pgs_cons (pg_name (i := 4) scTI.nd rfl (Or.inl rfl) (Or.inr rfl)) pgs_nil)))) (fun _ _ _ _ _ => pts_nil)
        (fun _ _ _ _ _ => pe_tup (pa_cons (pv 2) (pa_cons (pv 3) (pa_cons (pv 4) pa_nil))))) pa_nil)) rfl), ?_⟩
    have ll := tr.length
    rcases hc with hc | hc
    · refine ⟨.ref c, rfl, c, rfl, .inl ⟨⟨_, hc⟩, fun D nD => ?_⟩⟩
      refine lc_list (K := K) (a := c) (xs := xs) (fun i Hz => Same H Hz ∧ ∃ acc : List V, Hz D = some (.lst acc) ∧ TripsAt Hz acc (es.take i)) ⟨same_new nD, [], upd_same, trivial⟩ (fun i Hz _ z => z.1.seq hc) ?_ ?_
      · rintro i y Hz hy ⟨sz, acc, eD, ta⟩
        obtain ⟨p, e, rfl, ee, hp⟩ := tr.get hy
        have hi2 := (List.getElem?_eq_some_iff.mp hy).1
        refine ⟨p, _, rfl, SqT.of (sz _ _ hp), rfl, .int e.1, [.int e.2.1, .int e.2.2], rfl, .int e.2.1, [.int e.2.2], rfl, .int e.2.2, [], rfl, rfl, rfl, iteT (B := True) ?_⟩
        refine ⟨.int e.1, rfl, .int e.2.1, rfl, .int e.2.2, rfl, by show 3 ≤ sizeLine; decide, fun q nq => ?_⟩
        have sq := same_new (o := tri e) nq
        have la := ta.length
        rw [List.length_take] at la
        have eD2 := sq _ _ eD
        refine ⟨acc, eD2, Nat.lt_of_le_of_lt (show acc.length ≤ 3000 by omega) (by decide), same_again nD (sz.trans sq), acc ++ [.ref q], upd_same, ?_⟩
        rw [List.take_add_one, ee]
        exact ((ta.same sq).app (trips_one (e := e) upd_same)).but (fun b o n e => by rw [upd_ne n]; exact e) eD2
      rintro H1 ⟨s1, acc, eD, ta⟩
      rw [ll, List.take_length] at ta
      refine ⟨D, acc, rfl, .inl ⟨SqL.of eD, fun t nt => ?_⟩⟩
      have s2 := s1.trans (same_new (o := .tup acc) nt)
      have et := upd_same (H := H1) (a := t) (o := .tup acc)
      have ta2 := ta.same (same_new (o := .tup acc) nt)
      generalize upd H1 t (.tup acc) = H2 at s2 et ta2 ⊢
      have hx2 := s2 _ _ hx
      refine ⟨.ref x, rfl, x, C, dx, [], rfl, hx2, T.cl, T.nE, by decide, ?_⟩
      have keep : ∀ b o, b ≠ x → H2 b = some o → (upd H2 x (.ins C dx (putF "entries" (.ref t) []))) b = some o := fun b o nb e => by rw [upd_ne nb]; exact e
      refine hq _ (fun b o nb e => keep b o nb (s2 _ _ e)) ⟨dx, t, acc, ?_, ?_, ?_⟩
      · rw [upd_same]; rfl
      · exact keep _ _ (fun z => by rw [z, hx2] at et; cases et) et
      · exact ta2.map fun p e q => keep p _ (fun z => by rw [z, hx2] at q; cases q) q
    · refine ⟨.ref c, rfl, c, rfl, .inr ⟨⟨_, hc⟩, fun D nD => ?_⟩⟩
      refine lc_tup (K := K) (a := c) (xs := xs) (fun i Hz => Same H Hz ∧ ∃ acc : List V, Hz D = some (.lst acc) ∧ TripsAt Hz acc (es.take i)) ⟨same_new nD, [], upd_same, trivial⟩ (fun i Hz _ z => SqT_same z.1 hc) ?_ ?_
      · rintro i y Hz hy ⟨sz, acc, eD, ta⟩
        obtain ⟨p, e, rfl, ee, hp⟩ := tr.get hy
        have hi2 := (List.getElem?_eq_some_iff.mp hy).1
        refine ⟨p, _, rfl, SqT.of (sz _ _ hp), rfl, .int e.1, [.int e.2.1, .int e.2.2], rfl, .int e.2.1, [.int e.2.2], rfl, .int e.2.2, [], rfl, rfl, rfl, iteT (B := True) ?_⟩
        refine ⟨.int e.1, rfl, .int e.2.1, rfl, .int e.2.2, rfl, by show 3 ≤ sizeLine; decide, fun q nq => ?_⟩
        have sq := same_new (o := tri e) nq
        have la := ta.length
        rw [List.length_take] at la
        have eD2 := sq _ _ eD
        refine ⟨acc, eD2, Nat.lt_of_le_of_lt (show acc.length ≤ 3000 by omega) (by decide), same_again nD (sz.trans sq), acc ++ [.ref q], upd_same, ?_⟩
        rw [List.take_add_one, ee]
        exact ((ta.same sq).app (trips_one (e := e) upd_same)).but (fun b o n e => by rw [upd_ne n]; exact e) eD2
      rintro H1 ⟨s1, acc, eD, ta⟩
      rw [ll, List.take_length] at ta
      refine ⟨D, acc, rfl, .inl ⟨SqL.of eD, fun t nt => ?_⟩⟩
      have s2 := s1.trans (same_new (o := .tup acc) nt)
      have et := upd_same (H := H1) (a := t) (o := .tup acc)
      have ta2 := ta.same (same_new (o := .tup acc) nt)
      generalize upd H1 t (.tup acc) = H2 at s2 et ta2 ⊢
      have hx2 := s2 _ _ hx
      refine ⟨.ref x, rfl, x, C, dx, [], rfl, hx2, T.cl, T.nE, by decide, ?_⟩
      have keep : ∀ b o, b ≠ x → H2 b = some o → (upd H2 x (.ins C dx (putF "entries" (.ref t) []))) b = some o := fun b o nb e => by rw [upd_ne nb]; exact e
      refine hq _ (fun b o nb e => keep b o nb (s2 _ _ e)) ⟨dx, t, acc, ?_, ?_, ?_⟩
      · rw [upd_same]; rfl
      · exact keep _ _ (fun z => by rw [z, hx2] at et; cases et) et
      · exact ta2.map fun p e q => keep p _ (fun z => by rw [z, hx2] at q; cases q) q
def spTA (C : Addr) : Sp := fun vs H Q _ => ∃ (x : Addr) (T : List Ent) (lo hi : Int), vs = [.ref x, .int lo, .int hi] ∧ TabAt H C x T ∧ T.length ≤ 500 ∧ ∀ H', Same H H' → Q (.int (amt T lo hi)) H'
theorem amts_take {T : List Ent} {lo hi : Int} {i : Nat} {e : Ent} (h : T[i]? = some e) : amts (T.take (i + 1)) lo hi = amts (T.take i) lo hi ++ (if has lo hi e = true then [e.2.2] else []) := by
  unfold amts
  rw [List.take_add_one, h]
  show List.map _ (List.filter _ (T.take i ++ [e])) = _
  rw [List.filter_append, List.map_append]
  congr 1
  cases k : has lo hi e <;> simp [List.filter, k]
theorem amts_len (T : List Ent) (lo hi : Int) : (amts T lo hi).length ≤ T.length := by
  unfold amts
  rw [List.length_map]
  exact List.length_filter_le _ _
theorem ok_TA {f : Addr} {fd : FuncData} {k : Nat} (F : Fun K "amount" "Table.amount" sTA f fd) (T : Tbl K C) (mm : mg "max" = none) :
    FnOk P w K mg base CX0 (k + 1) f fd ["self", "low", "high"] (spTA C) := by
  refine F.ok scTA (fun vs H Q E h => ?_) (fun cdv A outer s H vs Q E hr h => ?_)
  · obtain ⟨x, T, lo, hi, rfl, _⟩ := h
    rfl
  · obtain ⟨x, es, lo, hi, rfl, ⟨dx, t, ys, hx, ht, tr⟩, le, hq⟩ := h
    refine ⟨_, pss_cons (ps_setLc (i := 3) (own := [("amount", 4), ("start", 5), ("end", 6)]) (g := gTup K 3 (gCons (gName 5) (gCons (gName 6) (gCons (gName 4) gNil)))) (te := tVar 4) rfl scTA.nd rfl rfl (sw_true rfl rfl rfl (by decide +kernel)) (pi_tup (pe_fld (pv 0) rfl))
        (blkOk_by (own := [("amount", 4), ("start", 5), ("end", 6)]) (N := ["self", "low", "high", "amounts", "amount", "start", "end"]) (sc := defScope sTA) (by decide +kernel))
        (fun _ _ _ _ _ => pg_tup rfl (pgs_cons (pg_name (i := 5) scTA.nd rfl (Or.inl rfl) (Or.inr rfl)) (pgs_cons (pg_name (i := 6) scTA.nd rfl (Or.inl rfl) (Or.inr rfl)) (pgs_cons (pg_name (i := 4) scTA.nd rfl (Or.inl rfl) (Or.inr rfl)) pgs_nil))))
        (fun _ _ _ _ _ => pts_one (PW.pt (pw_and (pt_cmpR op_le (pv 1) (pv 5) (nomark _)) (pw_and1 (pt_cmpR op_le (pv 6) (pv 2) (nomark _))))))
        (fun _ _ _ _ _ => pv 4))
      (pss_one (ps_ret (pe_callBK (GM.cr_maxD rfl (hu_of hr)) (by rfl) mm (by decide +kernel) (pa_cons (pv 3) pa_nil) (pk_cons pe_int pk_nil)))), ?_⟩
    have ll := tr.length
    refine ⟨.ref x, rfl, x, C, dx, _, .ref t, rfl, hx, T.cl, T.nE, rfl, t, rfl, ⟨_, SqT.of ht⟩, fun D nD => ?_⟩
    refine lc_tup (K := K) (a := t) (xs := ys) (fun i Hz => Same H Hz ∧ Hz D = some (.lst ((amts (es.take i) lo hi).map V.int))) ⟨same_new nD, upd_same⟩ (fun i Hz _ z => SqT.of (z.1 _ _ ht)) ?_ ?_
    · rintro i y Hz hy ⟨sz, eD⟩
      obtain ⟨p, e, rfl, ee, hp⟩ := tr.get hy
      have l2 : 2 ≤ sizeLine := by decide
      refine ⟨p, _, rfl, SqT.of (sz _ _ hp), rfl, .int e.1, [.int e.2.1, .int e.2.2], rfl, .int e.2.1, [.int e.2.2], rfl, .int e.2.2, [], rfl, rfl, rfl, ?_⟩
      have st := amts_take (lo := lo) (hi := hi) ee
      have la := amts_len (es.take i) lo hi
      rw [List.length_take] at la
      have eh : has lo hi e = (decide (lo ≤ e.1) && decide (e.2.1 ≤ hi)) := rfl
      refine ⟨.int lo, rfl, .int e.1, rfl, lo, e.1, rfl, rfl, _, rfl, ?_⟩
      have yes : has lo hi e = true → Hz D = some (.lst ((amts (es.take i) lo hi).map V.int)) → True := fun _ _ => trivial
      by_cases c1 : lo ≤ e.1
      · rw [decide_eq_true c1, Bool.true_and] at eh
        rw [decide_eq_true c1]
        refine iteT ⟨.int e.2.1, rfl, .int hi, rfl, e.2.1, hi, rfl, rfl, _, rfl, ?_⟩
        rw [← eh]
        cases k : has lo hi e with
        | true =>
          rw [k, if_pos rfl] at st
          refine iteT ⟨.int e.2.2, rfl, _, eD, ?_, same_again nD sz, ?_⟩
          · rw [List.length_map]; exact Nat.lt_of_le_of_lt (show _ ≤ 3000 by omega) (by decide)
          · rw [upd_same, st, List.map_append]; rfl
        | false =>
          rw [k, if_neg (by simp), List.append_nil] at st
          exact iteF ⟨sz, by rw [st]; exact eD⟩
      · rw [decide_eq_false c1, Bool.false_and] at eh
        rw [decide_eq_false c1]
        rw [eh, if_neg (by simp), List.append_nil] at st
        refine iteF ?_
        refine iteF ?_
        exact ⟨sz, by rw [st]; exact eD⟩
    rintro H1 ⟨s1, eD⟩
    rw [ll, List.take_length] at eD
    refine ⟨.ref D, rfl, D, amts es lo hi, 0, rfl, rfl, SqL.of eD, ?_⟩
    have et : GM.topD 0 (amts es lo hi) = amt es lo hi := by unfold amt; cases amts es lo hi <;> rfl
    rw [et]
    exact hq _ s1
def spTWl (K : PySem.W.Frag) (C : Addr) : Sp := fun vs H Q _ => ∃ (x a : Addr) (T : List Ent) (xs : List V) (rs : List (Int × Int)), vs = [.ref x, .ref a] ∧ TabAt H C x T ∧ T.length ≤ 500 ∧ SqL K H a xs ∧ PairsAt H xs rs ∧ rs.length ≤ 2000 ∧ ∀ H', Same H H' → Q (.int (wear T rs)) H'
def spTWt (K : PySem.W.Frag) (C : Addr) : Sp := fun vs H Q _ => ∃ (x a : Addr) (T : List Ent) (xs : List V) (rs : List (Int × Int)), vs = [.ref x, .ref a] ∧ TabAt H C x T ∧ T.length ≤ 500 ∧ SqT K H a xs ∧ PairsAt H xs rs ∧ rs.length ≤ 2000 ∧ ∀ H', Same H H' → Q (.int (wear T rs)) H'
theorem ok_TWl {f fA : Addr} {fd dA : FuncData} {k : Nat} (F : Fun K "wear" "Table.wear" sTW f fd) (T : Tbl K C) (mA : Meth K C "amount" fA) (GA : FnOk P w K mg base CX0 (k + 2) fA dA ["self", "low", "high"] (spTA C)) (bA : Binds K dA ["self", "low", "high"] []) (ms : mg "sum" = none) :
    FnOk P w K mg base CX0 (k + 3) f fd ["self", "ranges"] (spTWl K C) := by
  refine F.ok scTW (fun vs H Q E h => ?_) (fun cdv A outer s H vs Q E hr h => ?_)
  · obtain ⟨x, a, T, xs, rs, rfl, _⟩ := h
    rfl
  · obtain ⟨x, a, es, xs, rs, rfl, tab, le, hS, pa, lr, hq⟩ := h
    refine ⟨_, pss_one (ps_ret (pe_callB (cr_sum rfl) (by rfl) ms (by decide +kernel) (pa_cons (pe_lc (own := [("low", 2), ("high", 3)]) (g := gTup K 2 (gCons (gName 2) (gCons (gName 3) gNil))) (tt := tYes) (te := tMeth C "amount" (spTA C) [] E0 (tVar 0) (tCons (tVar 2) (tCons (tVar 3) tNil))) rfl scTW.nd (pi_list (pv 1)) (blkOk_by (own := [("low", 2), ("high", 3)]) (N := ["self", "ranges", "low", "high"]) (sc := defScope sTW) (by decide +kernel))
        (fun _ _ _ _ _ => pg_tup rfl (pgs_cons (pg_name (i := 2) scTW.nd rfl (Or.inl rfl) (Or.inr rfl)) (pgs_cons (pg_name (i := 3) scTW.nd rfl (Or.inl rfl) (Or.inr rfl)) pgs_nil))) (fun _ _ _ _ _ => pts_nil)
        (fun _ _ _ _ _ => pe_meth (pv 0) T.cl mA GA hr bA .nil pass0 (pa_cons (pv 2) (pa_cons (pv 3) pa_nil)))) pa_nil))), ?_⟩
    have ll := pa.length
    refine ⟨.ref a, rfl, a, rfl, ⟨_, hS⟩, fun D nD => ?_⟩
    refine lc_list (K := K) (a := a) (xs := xs) (fun i Hz => Same H Hz ∧ Hz D = some (.lst (((rs.take i).map fun r => amt es r.1 r.2).map V.int))) ⟨same_new nD, upd_same⟩ (fun i Hz _ z => z.1.seq hS) ?_ ?_
    · rintro i y Hz hy ⟨sz, eD⟩
      obtain ⟨p, r, rfl, er, hp⟩ := pairs_get pa hy
      obtain ⟨dx, t, ys, hx, _⟩ := id tab
      refine ⟨p, _, rfl, SqT.of (sz _ _ hp), rfl, .int r.1, [.int r.2], rfl, .int r.2, [], rfl, rfl, rfl, iteT (B := True) ?_⟩
      refine ⟨.ref x, rfl, x, dx, _, rfl, sz _ _ hx, rfl, .int r.1, rfl, .int r.2, rfl, x, es, r.1, r.2, rfl, tab.same sz, le, fun H2 s2 => ?_⟩
      refine ⟨_, s2 _ _ eD, ?_, same_again nD (sz.trans s2), ?_⟩
      · rw [List.length_map, List.length_map, List.length_take]; exact Nat.lt_of_le_of_lt (show _ ≤ 3000 by omega) (by decide)
      · rw [upd_same, List.take_add_one, er, List.map_append, List.map_append]; rfl
    rintro H1 ⟨s1, eD⟩
    rw [ll, List.take_length] at eD
    exact ⟨D, _, rfl, SqL.of eD, hq _ s1⟩
theorem ok_TWt {f fA : Addr} {fd dA : FuncData} {k : Nat} (F : Fun K "wear" "Table.wear" sTW f fd) (T : Tbl K C) (mA : Meth K C "amount" fA) (GA : FnOk P w K mg base CX0 (k + 2) fA dA ["self", "low", "high"] (spTA C)) (bA : Binds K dA ["self", "low", "high"] []) (ms : mg "sum" = none) :
    FnOk P w K mg base CX0 (k + 3) f fd ["self", "ranges"] (spTWt K C) := by
  refine F.ok scTW (fun vs H Q E h => ?_) (fun cdv A outer s H vs Q E hr h => ?_)
  · obtain ⟨x, a, T, xs, rs, rfl, _⟩ := h
    rfl
  · obtain ⟨x, a, es, xs, rs, rfl, tab, le, hS, pa, lr, hq⟩ := h
    refine ⟨_, pss_one (ps_ret (pe_callB (cr_sum rfl) (by rfl) ms (by decide +kernel) (pa_cons (pe_lc (own := [("low", 2), ("high", 3)]) (g := gTup K 2 (gCons (gName 2) (gCons (gName 3) gNil))) (tt := tYes) (te := tMeth C "amount" (spTA C) [] E0 (tVar 0) (tCons (tVar 2) (tCons (tVar 3) tNil))) rfl scTW.nd (pi_tup (pv 1)) (blkOk_by (own := [("low", 2), ("high", 3)]) (N := ["self", "ranges", "low", "high"]) (sc := defScope sTW) (by decide +kernel))
        (fun _ _ _ _ _ => pg_tup rfl (pgs_cons (pg_name (i := 2) scTW.nd rfl (Or.inl rfl) (Or.inr rfl)) (pgs_cons (pg_name (i := 3) scTW.nd rfl (Or.inl rfl) (Or.inr rfl)) pgs_nil))) (fun _ _ _ _ _ => pts_nil)
        (fun _ _ _ _ _ => pe_meth (pv 0) T.cl mA GA hr bA .nil pass0 (pa_cons (pv 2) (pa_cons (pv 3) pa_nil)))) pa_nil))), ?_⟩
    have ll := pa.length
    refine ⟨.ref a, rfl, a, rfl, ⟨_, hS⟩, fun D nD => ?_⟩
    refine lc_tup (K := K) (a := a) (xs := xs) (fun i Hz => Same H Hz ∧ Hz D = some (.lst (((rs.take i).map fun r => amt es r.1 r.2).map V.int))) ⟨same_new nD, upd_same⟩ (fun i Hz _ z => SqT_same z.1 hS) ?_ ?_
    · rintro i y Hz hy ⟨sz, eD⟩
      obtain ⟨p, r, rfl, er, hp⟩ := pairs_get pa hy
      obtain ⟨dx, t, ys, hx, _⟩ := id tab
      refine ⟨p, _, rfl, SqT.of (sz _ _ hp), rfl, .int r.1, [.int r.2], rfl, .int r.2, [], rfl, rfl, rfl, iteT (B := True) ?_⟩
      refine ⟨.ref x, rfl, x, dx, _, rfl, sz _ _ hx, rfl, .int r.1, rfl, .int r.2, rfl, x, es, r.1, r.2, rfl, tab.same sz, le, fun H2 s2 => ?_⟩
      refine ⟨_, s2 _ _ eD, ?_, same_again nD (sz.trans s2), ?_⟩
      · rw [List.length_map, List.length_map, List.length_take]; exact Nat.lt_of_le_of_lt (show _ ≤ 3000 by omega) (by decide)
      · rw [upd_same, List.take_add_one, er, List.map_append, List.map_append]; rfl
    rintro H1 ⟨s1, eD⟩
    rw [ll, List.take_length] at eD
    exact ⟨D, _, rfl, SqL.of eD, hq _ s1⟩
end
end XT

/-! drawn entries -/
namespace XU
open PySem PySem.Spec PyProof.Rows L2 KA KD PH PM RM K52b XT
abbrev sIv : Stmt := topS 19
abbrev sEn : Stmt := topS 20
theorem scIv : FnScope ["feed", "most", "low"] ["feed", "most"] (defScope sIv) := ⟨rfl, rfl, rfl, by decide +kernel, rfl, by decide +kernel, by decide +kernel⟩
theorem scEn : FnScope ["feed", "most", "found", "turn", "low", "high"] ["feed", "most"] (defScope sEn) := ⟨rfl, rfl, rfl, by decide +kernel, rfl, by decide +kernel, by decide +kernel⟩
theorem cutv_to (xs : List V) (j : Nat) : cutV xs none (some (j : Int)) = xs.take j := by
  unfold cutV
  rw [HT.sIx_nat xs.length xs.length j, HT.sIx_none]
  rw [List.drop_zero, Nat.sub_zero]
  by_cases h : j ≤ xs.length
  · rw [Nat.min_eq_left h]
  · rw [Nat.min_eq_right (by omega), List.take_length, List.take_of_length_le (by omega)]
theorem cutv_from (xs : List V) (j : Nat) : cutV xs (some (j : Int)) none = xs.drop j := by
  unfold cutV
  rw [HT.sIx_nat xs.length 0 j, HT.sIx_none]
  by_cases h : j ≤ xs.length
  · rw [Nat.min_eq_left h, List.take_of_length_le (by rw [List.length_drop]; exact Nat.le_refl _)]
  · rw [Nat.min_eq_right (by omega), Nat.sub_self, List.take_zero, List.drop_of_length_le (by omega)]
theorem fe_lst {H : Hp} {f : Addr} (fe : FeedAt H f) : ∃ acc, H f = some (.lst acc) := by
  obtain ⟨d, st, _, _, _, e⟩ := fe
  exact ⟨_, e⟩
theorem ch_tup {f t : Addr} {H H' : Hp} {xs : List V} (c : Ch f H H') (fe : FeedAt H f) (h : H t = some (.tup xs)) : H' t = some (.tup xs) := by
  refine c _ _ (fun z => ?_) h
  obtain ⟨acc, e⟩ := fe_lst fe
  rw [z, e] at h
  cases h
/-! data of entries -/
def dTrips (es : List Ent) : List PyData := es.map fun e => .tuple [.int e.1, .int e.2.1, .int e.2.2]
theorem dp_trips {K : PySem.W.Frag} {H : Hp} : ∀ {xs : List V} {es : List Ent}, TripsAt H xs es → DpAll K H xs (dTrips es)
  | [], [], _ => .nil
  | x :: xs, e :: es, ⟨⟨p, h1, h2⟩, h3⟩ => by
    subst h1
    exact .cons (.tup (SqT.of h2) (.cons (.int _) (.cons (.int _) (.cons (.int _) .nil)))) (dp_trips h3)
  | [], _ :: _, h => h.elim
  | _ :: _, [], h => h.elim
theorem lay_trips : ∀ es : List Ent, PyData.canLayAll0 (dTrips es) = true
  | [] => rfl
  | e :: es => by
    show (PyData.canLay0 (.tuple [.int e.1, .int e.2.1, .int e.2.2]) && PyData.canLayAll0 (dTrips es)) = true
    rw [lay_trips es]
    simp only [PyData.canLay0, PyData.canLayAll0, Bool.and_true]
theorem depth_trips : ∀ es : List Ent, PyData.depthAll (dTrips es) ≤ 3
  | [] => Nat.zero_le _
  | e :: es => by
    have h := depth_trips es
    show max (PyData.depth (.tuple [.int e.1, .int e.2.1, .int e.2.2])) (PyData.depthAll (dTrips es)) ≤ 3
    simp only [PyData.depth, PyData.depthAll]
    omega
theorem shaped_trips (es : List Ent) : SeqAt.shaped (.list (dTrips es)) = true :=
  shaped_of (by simp only [PyData.canLay0, lay_trips]) (by have := depth_trips es; simp only [PyData.depth]; omega)
theorem ev_trips (es : List Ent) : PyData.eqv (.list (dTrips es)) (.list (dInts [])) = decide (es = []) := by
  cases es with
  | nil => rfl
  | cons e es => rfl
section
variable {P : Program} {w : World} {K : PySem.W.Frag} {mg : Str → Option Value} {base : Heap}
def spIv : Sp := fun vs H Q _ => ∃ (f : Addr) (m : Int), vs = [.ref f, .int m] ∧ 0 < m ∧ m ≤ 1000 ∧ FeedAt H f ∧ ∀ H' p lo hi, Ch f H H' → FeedAt H' f → H p = none → H' p = some (.tup [.int lo, .int hi]) → lo < hi → 0 ≤ lo → hi ≤ m → Q (.ref p) H'
theorem ok_iv {f0 fT : Addr} {fd dT : FuncData} {k : Nat} (F : Fun K "_law_interval" "_law_interval" sIv f0 fd) (GT : FnOk P w K mg base CX0 (k + 1) fT dT ["feed", "many"] spTake) (gT : mg "_law_take" = some (.ref fT)) (kT : PySem.W.keepIn K (.ref fT) = true) (bT : Binds K dT ["feed", "many"] []) :
    FnOk P w K mg base CX0 (k + 2) f0 fd ["feed", "most"] spIv := by
  refine F.ok scIv (fun vs H Q E h => ?_) (fun cdv A outer s H vs Q E hr h => ?_)
  · obtain ⟨f, m, rfl, _⟩ := h
    rfl
  · obtain ⟨f, m, rfl, m0, m1, fe, hq⟩ := h
    refine ⟨_, pss_cons (ps_set (i := 2) scIv.nd rfl (.inl rfl) (pe_call GT hr (by rfl) gT kT bT .nil pass0 (pa_cons (pv 0) (pa_cons (pv 1) pa_nil))))
      (pss_one (ps_ret (pe_tup (pa_cons (pv 2) (pa_cons (pe_op op_add (pe_op op_add (pv 2) pe_int) (pe_call GT hr (by rfl) gT kT bT .nil pass0 (pa_cons (pv 0) (pa_cons (pe_op op_sub (pv 1) (pv 2)) pa_nil)))) pa_nil))))), ?_⟩
    refine ⟨.ref f, rfl, .int m, rfl, f, m, rfl, m0, by omega, fe, fun H1 x c1 fe1 g0 g1 => ?_⟩
    refine ⟨.int x, rfl, .int x, rfl, x, 1, rfl, rfl, .ref f, rfl, .int m, rfl, .int x, rfl, m, x, rfl, rfl, f, m - x, rfl, by omega, by omega, fe1, fun H2 y c2 fe2 g2 g3 => ?_⟩
    refine ⟨x + 1, y, rfl, rfl, by show 2 ≤ sizeLine; decide, fun p np => ?_⟩
    have sp := same_new (o := .tup [.int x, .int (x + 1 + y)]) np
    have c := c1.trans c2
    exact hq _ p x (x + 1 + y) (c.trans (Ch.of_same sp)) (fe2.same sp) (c.free (fe2.ne np) np) upd_same (by omega) (by omega) (by omega)
def Bnd (es : List Ent) : Prop := ∀ e ∈ es, 0 ≤ e.1 ∧ e.2.1 ≤ 1000 ∧ e.2.2 ≤ 1000000
theorem Bnd.app {es : List Ent} (h : Bnd es) {e : Ent} (g : 0 ≤ e.1 ∧ e.2.1 ≤ 1000 ∧ e.2.2 ≤ 1000000) : Bnd (es ++ [e]) := fun x hx => (List.mem_append.mp hx).elim (h x) fun z => by rw [List.mem_singleton.mp z]; exact g
def spEn (K : PySem.W.Frag) : Sp := fun vs H Q _ => ∃ (f : Addr) (m : Int), vs = [.ref f, .int m] ∧ 0 < m ∧ m ≤ 1000 ∧ FeedAt H f ∧ ∀ H' c xs es, Ch f H H' → FeedAt H' f → H' c = some (.lst xs) → c ≠ f → H c = none → TripsAt H' xs es → Good es → Bnd es → es.length ≤ 6 → Q (.ref c) H'
/-- what the loop keeps -/
structure En (H : Hp) (f c : Addr) (xs : List V) (es : List Ent) (Hz : Hp) : Prop where
  ch : Ch f H Hz
  fe : FeedAt Hz f
  hc : Hz c = some (.lst xs)
  tr : TripsAt Hz xs es
  g : Good es
  b : Bnd es
theorem En.go {H : Hp} {f c : Addr} {xs : List V} {es : List Ent} {H1 H2 : Hp} (g : En H f c xs es H1) (n : c ≠ f) (k : Ch f H1 H2) (fe : FeedAt H2 f) : En H f c xs es H2 :=
  ⟨g.ch.trans k, fe, k _ _ n g.hc, g.tr.ch k (fe_lst g.fe), g.g, g.b⟩
theorem En.same {H : Hp} {f c : Addr} {xs : List V} {es : List Ent} {H1 H2 : Hp} (g : En H f c xs es H1) (n : c ≠ f) (s : Same H1 H2) : En H f c xs es H2 := g.go n (Ch.of_same s) (g.fe.same s)
theorem ok_en {f0 fT fI fP : Addr} {fd dT dI dP : FuncData} {k : Nat} (F : Fun K "_law_entries" "_law_entries" sEn f0 fd) (GT : FnOk P w K mg base CX0 (k + 1) fT dT ["feed", "many"] spTake) (gT : mg "_law_take" = some (.ref fT)) (kT : PySem.W.keepIn K (.ref fT) = true) (bT : Binds K dT ["feed", "many"] [])
    (GI : FnOk P w K mg base CX0 (k + 2) fI dI ["feed", "most"] spIv) (gI : mg "_law_interval" = some (.ref fI)) (kI : PySem.W.keepIn K (.ref fI) = true) (bI : Binds K dI ["feed", "most"] [])
    (GP : FnOk P w K mg base CX0 (k + 2) fP dP ["feed", "some"] (spPick K)) (gP : mg "_law_pick" = some (.ref fP)) (kP : PySem.W.keepIn K (.ref fP) = true) (bP : Binds K dP ["feed", "some"] []) (mr : mg "range" = none) :
    FnOk P w K mg base CX0 (k + 3) f0 fd ["feed", "most"] (spEn K) := by
  refine F.ok scEn (fun vs H Q E h => ?_) (fun cdv A outer s H vs Q E hr h => ?_)
  · obtain ⟨f, m, rfl, _⟩ := h
    rfl
  · obtain ⟨f, m, rfl, m0, m1, fe, hq⟩ := h
    have h1 := hr.mono (show k + 1 ≤ k + 2 by omega)
    refine ⟨_, pss_cons (ps_set (i := 2) scEn.nd rfl (.inl rfl) (pe_lst pa_nil))
      (pss_cons (ps_for PassesOwn.never rfl (pi_range1 rfl mr (pa_cons (pe_call GT h1 (by rfl) gT kT bT .nil pass0 (pa_cons (pv 0) (pa_cons pe_int pa_nil))) pa_nil)) (pg_name (i := 3) scEn.nd rfl (.inl rfl))
        (pss_cons (ps_asg (pe_call GI hr (by rfl) gI kI bI .nil pass0 (pa_cons (pv 0) (pa_cons (pv 1) pa_nil))) (pg_tup rfl (pgs_cons (pg_name (i := 4) scEn.nd rfl (.inl rfl)) (pgs_cons (pg_name (i := 5) scEn.nd rfl (.inl rfl)) pgs_nil))))
        (pss_cons (ps_if (PW.pt (pw_and (pt_cmpR (op_neD hr.units) (pv 2) (pe_lst pa_nil) (nomark _)) (pw_and1 (pt_cmpR op_eq (pe_call GT h1 (by rfl) gT kT bT .nil pass0 (pa_cons (pv 0) (pa_cons pe_int pa_nil))) pe_int (nomark _)))))
          (pss_one (ps_asg (pe_slice sl_tup (pe_ix ix_list (pv 2) (pe_un un_neg pe_int) (fun _ _ => rfl)) po_none (po_some pe_int)) (pg_tup rfl (pgs_cons (pg_name (i := 4) scEn.nd rfl (.inl rfl)) (pgs_cons (pg_name (i := 5) scEn.nd rfl (.inl rfl)) pgs_nil))))) pss_nil)
        (pss_one (ps_expr (pe_bm PySem.F.plainAttrs_list PySem.F.slot_list_append PySem.F.type_list_append mt_append (pv 2) (pa_cons (pe_tup (pa_cons (pv 4) (pa_cons (pv 5) (pa_cons (pe_call GP hr (by rfl) gP kP bP .nil pass0 (pa_cons (pv 0) (pa_cons (pe_lst (pa_cons pe_int (pa_cons pe_int (pa_cons pe_int (pa_cons pe_int (pa_cons (pe_op op_pow pe_int pe_int) (pa_cons (pe_call GT h1 (by rfl) gT kT bT .nil pass0 (pa_cons (pv 0) (pa_cons pe_int pa_nil))) pa_nil))))))) pa_nil))) pa_nil)))) pa_nil)))))))
      (pss_one (ps_ret (pv 2)))), ?_⟩
    refine ⟨Nat.zero_le _, fun c nc => ?_⟩
    have sc := same_new (o := .lst []) nc
    have ncf := fe.ne nc
    have ec := upd_same (H := H) (a := c) (o := .lst [])
    have g0 : En H f c [] [] (upd H c (.lst [])) := ⟨Ch.of_same sc, fe.same sc, ec, trivial, fun e he => (List.not_mem_nil he).elim, fun e he => (List.not_mem_nil he).elim⟩
    generalize upd H c (.lst []) = H0 at g0 ⊢
    clear sc ec
    refine ⟨.ref f, rfl, f, 7, rfl, by decide, by decide, g0.fe, fun H1 n c1 fe1 n0 n7 => ?_⟩
    have g1 := g0.go ncf c1 fe1
    refine ⟨n, rfl, by omega, by omega, for_range (lo := 0) (n := n.toNat) (fun i σ Hz => ∃ xs es, En H f c xs es Hz ∧ es.length = i ∧ ∃ r3 r4 r5 : Option V, σ = [some (.ref f), some (.int m), some (.ref c), r3, r4, r5]) ⟨[], [], g1, rfl, none, none, none, rfl⟩ ?_ ?_⟩
    · clear g0 g1 c1 fe1
      rintro i σ Hz hi ⟨xs, es, g, le, r3, r4, r5, rfl⟩
      have lx := g.tr.length
      refine ⟨.ref f, rfl, .int m, rfl, f, m, rfl, m0, m1, g.fe, fun H2 p lo hi c2 fe2 np ep lh l0 lm => ?_⟩
      have g2 := g.go ncf c2 fe2
      refine ⟨p, _, rfl, SqT.of ep, rfl, .int lo, [.int hi], rfl, .int hi, [], rfl, rfl, ?_⟩
      refine ⟨.ref c, rfl, Nat.zero_le _, fun e1 ne1 => ?_⟩
      have s3 := same_new (o := .lst []) ne1
      have g3 := g2.same ncf s3
      refine ⟨.list (dTrips es), .list (dInts []), .lst (SqL.of g3.hc) (dp_trips g3.tr), .lst (SqL.of upd_same) (dp_ints []), shaped_trips es, shaped_lst [], _, rfl, ?_⟩
      rw [ev_trips]
      generalize upd H2 e1 (.lst []) = H3 at g3 ⊢
      by_cases he : es = []
      · rw [decide_eq_true he]
        refine iteF (iteF ?_)
        refine ⟨.ref c, rfl, .inl ⟨rfl, _, SqL.of g3.hc⟩, .int lo, rfl, .int hi, rfl, .ref f, rfl, 10, 6, rfl, rfl, ⟨by decide, by decide, by decide⟩, .ref f, rfl, f, 50, rfl, by decide, by decide, g3.fe, fun H4 t c4 fe4 t0 t1 => ⟨by show 6 ≤ sizeLine; decide, fun l nl => ?_⟩⟩
        have g4 := g3.go ncf c4 fe4
        have sl := same_new (o := .lst [.int 0, .int 1, .int 2, .int 5, .int (10 ^ (6 : Int).toNat), .int t]) nl
        have g5 := g4.same ncf sl
        refine ⟨f, l, _, rfl, g4.fe.ne nl, SqL.of upd_same, by show 0 < 6; decide, by show 6 ≤ 1000; decide, g5.fe, fun H6 j v hv c6 fe6 => ?_⟩
        obtain ⟨am, rfl, a0, a1⟩ : ∃ am : Int, v = .int am ∧ 0 ≤ am ∧ am ≤ 1000000 := by
          match j, hv with
          | 0, hv => exact ⟨0, (Option.some.inj hv).symm, by decide, by decide⟩
          | 1, hv => exact ⟨1, (Option.some.inj hv).symm, by decide, by decide⟩
          | 2, hv => exact ⟨2, (Option.some.inj hv).symm, by decide, by decide⟩
          | 3, hv => exact ⟨5, (Option.some.inj hv).symm, by decide, by decide⟩
          | 4, hv => exact ⟨_, (Option.some.inj hv).symm, by decide, by decide⟩
          | 5, hv => exact ⟨t, (Option.some.inj hv).symm, t0, by omega⟩
          | n + 6, hv => simp at hv
        have g6 := g5.go ncf c6 fe6
        refine ⟨by show 3 ≤ sizeLine; decide, fun q nq => ?_⟩
        have sq := same_new (o := tri (lo, hi, am)) nq
        have g7 := g6.same ncf sq
        refine ⟨c, xs, _, rfl, rfl, g7.hc, Nat.lt_of_le_of_lt (show xs.length ≤ 3000 by omega) (by decide), ?_⟩
        exact ⟨xs ++ [.ref q], es ++ [(lo, hi, am)], ⟨Ch.again nc g7.ch, g7.fe.upd ncf, upd_same, (g7.tr.app (trips_one (e := (lo, hi, am)) upd_same)).but (fun b o n e => by rw [upd_ne n]; exact e) g7.hc, g.g.app (good_one ⟨lh, a0⟩), g.b.app (e := (lo, hi, am)) ⟨l0, show hi ≤ 1000 by omega, a1⟩⟩, by rw [List.length_append]; show es.length + 1 = _; omega, _, _, _, rfl⟩
      · rw [decide_eq_false he]
        refine iteT ⟨.ref f, rfl, f, 4, rfl, by decide, by decide, g3.fe, fun H5 t c5 fe5 t0 t4 => ⟨rfl, _, rfl, ?_⟩⟩
        have g8 := g3.go ncf c5 fe5
        refine ite2 (fun _ => ?_) (fun _ => ?_)
        · rcases List.eq_nil_or_concat xs with e | ⟨ys, v, e⟩
          · subst e
            exact absurd (List.length_eq_zero_iff.mp (show es.length = 0 by simpa using lx.symm)) he
          rw [List.concat_eq_append] at e
          obtain ⟨p2, en, rfl, ee, hp2⟩ := g8.tr.get (i := ys.length) (x := v) (by rw [e]; simp)
          have ge := g8.g en (List.mem_of_getElem? ee)
          have gb := g8.b en (List.mem_of_getElem? ee)
          refine ⟨.ref c, rfl, 1, rfl, c, _, -1, .ref p2, rfl, rfl, SqL.of g8.hc, by rw [e]; exact atI_last _ _, 2, rfl, p2, _, rfl, SqT.of hp2, (by show ¬(HT.sIx 3 0 none = 0 ∧ HT.sIx 3 3 (some 2) = 3); decide), fun p3 np3 => ?_⟩
          rw [show (some (2 : Int)) = some ((2 : Nat) : Int) from rfl, cutv_to]
          have s9 := same_new (o := .tup [.int en.1, .int en.2.1]) np3
          have g9 := g8.same ncf s9
          refine ⟨p3, [.int en.1, .int en.2.1], rfl, SqT.of upd_same, rfl, .int en.1, [.int en.2.1], rfl, .int en.2.1, [], rfl, rfl, ?_⟩
          refine ⟨.ref c, rfl, .inl ⟨rfl, _, SqL.of g9.hc⟩, .int en.1, rfl, .int en.2.1, rfl, .ref f, rfl, 10, 6, rfl, rfl, ⟨by decide, by decide, by decide⟩, .ref f, rfl, f, 50, rfl, by decide, by decide, g9.fe, fun H4 t c4 fe4 t0 t1 => ⟨by show 6 ≤ sizeLine; decide, fun l nl => ?_⟩⟩
          have g4 := g9.go ncf c4 fe4
          have sl := same_new (o := .lst [.int 0, .int 1, .int 2, .int 5, .int (10 ^ (6 : Int).toNat), .int t]) nl
          have g5 := g4.same ncf sl
          refine ⟨f, l, _, rfl, g4.fe.ne nl, SqL.of upd_same, by show 0 < 6; decide, by show 6 ≤ 1000; decide, g5.fe, fun H6 j v hv c6 fe6 => ?_⟩
          obtain ⟨am, rfl, a0, a1⟩ : ∃ am : Int, v = .int am ∧ 0 ≤ am ∧ am ≤ 1000000 := by
            match j, hv with
            | 0, hv => exact ⟨0, (Option.some.inj hv).symm, by decide, by decide⟩
            | 1, hv => exact ⟨1, (Option.some.inj hv).symm, by decide, by decide⟩
            | 2, hv => exact ⟨2, (Option.some.inj hv).symm, by decide, by decide⟩
            | 3, hv => exact ⟨5, (Option.some.inj hv).symm, by decide, by decide⟩
            | 4, hv => exact ⟨_, (Option.some.inj hv).symm, by decide, by decide⟩
            | 5, hv => exact ⟨t, (Option.some.inj hv).symm, t0, by omega⟩
            | n + 6, hv => simp at hv
          have g6 := g5.go ncf c6 fe6
          refine ⟨by show 3 ≤ sizeLine; decide, fun q nq => ?_⟩
          have sq := same_new (o := tri (en.1, en.2.1, am)) nq
          have g7 := g6.same ncf sq
          refine ⟨c, xs, _, rfl, rfl, g7.hc, Nat.lt_of_le_of_lt (show xs.length ≤ 3000 by omega) (by decide), ?_⟩
          exact ⟨xs ++ [.ref q], es ++ [(en.1, en.2.1, am)], ⟨Ch.again nc g7.ch, g7.fe.upd ncf, upd_same, (g7.tr.app (trips_one (e := (en.1, en.2.1, am)) upd_same)).but (fun b o n e => by rw [upd_ne n]; exact e) g7.hc, g.g.app (good_one ⟨ge.1, a0⟩), g.b.app (e := (en.1, en.2.1, am)) ⟨gb.1, gb.2.1, a1⟩⟩, by rw [List.length_append]; show es.length + 1 = _; omega, _, _, _, rfl⟩
        · skip
          refine ⟨.ref c, rfl, .inl ⟨rfl, _, SqL.of g8.hc⟩, .int lo, rfl, .int hi, rfl, .ref f, rfl, 10, 6, rfl, rfl, ⟨by decide, by decide, by decide⟩, .ref f, rfl, f, 50, rfl, by decide, by decide, g8.fe, fun H4 t c4 fe4 t0 t1 => ⟨by show 6 ≤ sizeLine; decide, fun l nl => ?_⟩⟩
          have g4 := g8.go ncf c4 fe4
          have sl := same_new (o := .lst [.int 0, .int 1, .int 2, .int 5, .int (10 ^ (6 : Int).toNat), .int t]) nl
          have g5 := g4.same ncf sl
          refine ⟨f, l, _, rfl, g4.fe.ne nl, SqL.of upd_same, by show 0 < 6; decide, by show 6 ≤ 1000; decide, g5.fe, fun H6 j v hv c6 fe6 => ?_⟩
          obtain ⟨am, rfl, a0, a1⟩ : ∃ am : Int, v = .int am ∧ 0 ≤ am ∧ am ≤ 1000000 := by
            match j, hv with
            | 0, hv => exact ⟨0, (Option.some.inj hv).symm, by decide, by decide⟩
            | 1, hv => exact ⟨1, (Option.some.inj hv).symm, by decide, by decide⟩
            | 2, hv => exact ⟨2, (Option.some.inj hv).symm, by decide, by decide⟩
            | 3, hv => exact ⟨5, (Option.some.inj hv).symm, by decide, by decide⟩
            | 4, hv => exact ⟨_, (Option.some.inj hv).symm, by decide, by decide⟩
            | 5, hv => exact ⟨t, (Option.some.inj hv).symm, t0, by omega⟩
            | n + 6, hv => simp at hv
          have g6 := g5.go ncf c6 fe6
          refine ⟨by show 3 ≤ sizeLine; decide, fun q nq => ?_⟩
          have sq := same_new (o := tri (lo, hi, am)) nq
          have g7 := g6.same ncf sq
          refine ⟨c, xs, _, rfl, rfl, g7.hc, Nat.lt_of_le_of_lt (show xs.length ≤ 3000 by omega) (by decide), ?_⟩
          exact ⟨xs ++ [.ref q], es ++ [(lo, hi, am)], ⟨Ch.again nc g7.ch, g7.fe.upd ncf, upd_same, (g7.tr.app (trips_one (e := (lo, hi, am)) upd_same)).but (fun b o n e => by rw [upd_ne n]; exact e) g7.hc, g.g.app (good_one ⟨lh, a0⟩), g.b.app (e := (lo, hi, am)) ⟨l0, show hi ≤ 1000 by omega, a1⟩⟩, by rw [List.length_append]; show es.length + 1 = _; omega, _, _, _, rfl⟩
    rintro σ H9 ⟨xs, es, g, le, r3, r4, r5, rfl⟩
    exact ⟨.ref c, rfl, hq _ c xs es g.ch g.fe g.hc ncf nc g.tr g.g g.b (by omega)⟩
end
end XU

/-! texts of ints -/
namespace WN
open PySem PySem.Spec PyProof.Rows L2 KA PH PM RM
theorem len_app (x y : Str) : (x ++ y).length = x.length + y.length := by
  show (x.cps ++ y.cps).size = _
  rw [Array.size_append]
  rfl
/-- the text of an int -/
def ti (i : Int) : Str := toString i
theorem ti_len {i : Int} (h : i.natAbs < 2 ^ 39) : (ti i).length ≤ 13 := by
  have := PySem.int_text_length_le10 (a := i) (k := 12) (by decide) (Nat.lt_trans h (by decide))
  have e : (ti i).length = (toString i).length := PySem.ofString_length _
  omega
theorem ti_log {i : Int} (h : i.natAbs < 2 ^ 39) : i.natAbs.log2 < 1920 := Nat.lt_of_lt_of_le (KG.small_log (by decide) h) (by decide)
def txC (r : Int × Int) : Str := ((Str.empty ++ ti r.1) ++ ":") ++ ti r.2
theorem col_len : ((":" : Str)).length = 1 := by decide +kernel
theorem txC_len {r : Int × Int} (h : r.1.natAbs < 2 ^ 39 ∧ r.2.natAbs < 2 ^ 39) : (txC r).length ≤ 27 := by
  unfold txC
  have h1 := ti_len h.1
  have h2 := ti_len h.2
  have h0 : (Str.empty).length = 0 := rfl
  have hc := col_len
  rw [len_app, len_app, len_app]
  omega
def rowC (ds : List (Int × Int)) : Str := if ds = [] then "none" else Txt.join " " (ds.map txC)
def rowP (rs : List Int) : Str := if rs = [] then "none" else Txt.join " " (rs.map ti)
def txt (ds : List (Int × Int)) (rs : List Int) : Str := Txt.join "\n" [rowC ds, rowP rs]
theorem sum_le {B : Nat} : ∀ {xs : List Str}, (∀ x ∈ xs, x.length ≤ B) → (xs.map (·.length)).sum ≤ B * xs.length
  | [], _ => Nat.zero_le _
  | x :: xs, h => by
    have h1 := h x List.mem_cons_self
    have h2 := sum_le (xs := xs) fun y hy => h y (List.mem_cons_of_mem _ hy)
    rw [List.map_cons, List.sum_cons, List.length_cons, Nat.mul_succ]
    omega
theorem sjoin_len {sep : Str} {B : Nat} : ∀ {xs : List Str}, (∀ x ∈ xs, x.length ≤ B) → (Str.join sep xs).length ≤ (B + sep.length) * xs.length
  | [], _ => Nat.zero_le _
  | [x], h => by
    have h1 := h x List.mem_cons_self
    show x.length ≤ _
    rw [List.length_singleton, Nat.mul_one]
    omega
  | x :: y :: xs, h => by
    have h1 := h x List.mem_cons_self
    have h2 := sjoin_len (sep := sep) (xs := y :: xs) fun z hz => h z (List.mem_cons_of_mem _ hz)
    show (x ++ sep ++ Str.join sep (y :: xs)).length ≤ _
    rw [len_app, len_app, List.length_cons, Nat.mul_succ]
    omega
theorem join_len {sep : Str} {B : Nat} {xs : List Str} (h : ∀ x ∈ xs, x.length ≤ B) : (Txt.join sep xs).length ≤ (B + sep.length) * xs.length := by
  show (Builtin.Str.glued sep xs).length ≤ _
  rw [StrLaws.glued_eq_join]
  exact sjoin_len h
end WN

/-! == and != of two instances by an own __eq__, both answers -/
namespace GN
open PySem PySem.Spec PyProof.Rows L2
section
variable {M : Model} {prog : Program} {w : World} {A : Around} {E : Value → Shared → Prop} {s : Shared} {K : PySem.W.Frag} {x C L f : Addr} {ox : Obj} {od : Option Obj}
theorem entry_ne {y : Value} (X : K.In s.heap) (I : PySem.W.InstAt s.heap x ox C od) (hs : PySem.W.findIn K (.ref C) "__eq__" = some (some (.ref f))) (hf : PySem.W.isFn K (.ref f) = true) (hu : A.units < cLine) {Q : Fin → Shared → Prop}
    (hcall : wpAny (model prog w) A (call (.ref f) [.ref x, y]) (fun v s' => ∃ b, v = .bool b ∧ Q (.done (.ret (.bool (!b)))) s') E s) :
    wpAny (model prog w) A (Builtin.«object.__ne__» ⟨[.ref x, y], []⟩) Q E s := by
  unfold Builtin.«object.__ne__»
  repeat (first
    | with_reducible refine wpAny_cRoomFor hu ?_
    | (refine wpAny_bind (m := callSpecialIfBound? (.ref x) (Str.ofString "__eq__") [y])
        (PySem.W.ifBound_K X I hs hf (wpAny_mono hcall (fun r s' hr => by
          obtain ⟨b, rfl, hq⟩ := hr
          repeat (first | exact hq | exact wpAny_pure hq | exact wpAny_truthy_bool hq | (refine wpAny_bind (m := truthy (.bool _)) (wpAny_truthy_bool ?_)) | wp_step)) fun _ _ e => e)))
    | wp_step)
theorem ifBound_ne {args : List Value} {Q : Option Value → Shared → Prop} (X : K.In s.heap) (I : PySem.W.InstAt s.heap x ox C od) (hs : PySem.W.findIn K (.ref C) "__ne__" = some (some (.builtin "object.__ne__")))
    (h : wpAny M A (call (.builtin "object.__ne__") (.ref x :: args)) (fun v => Q (some v)) E s) : wpAny M A (callSpecialIfBound? (.ref x) "__ne__" args) Q E s := by
  simp only [callSpecialIfBound?, bindSpecialIfBound?]
  refine wpAny_holding (wpAny_bind (wpAny_bind (wpAny_bind (I.type.here ((PySem.W.looks_findIn X hs).here ?_)))))
  refine wpAny_bind (wpAny_askSetting (wpAny_ite ?_))
  have fin : wpAny M A (call (.builtin "object.__ne__") ([.ref x] ++ args) >>= fun v => pure (some v)) Q E s := wpAny_bind (wpAny_mono h (fun v s' h' => wpAny_pure h') fun _ _ h' => h')
  split
  · exact wpAny_bind (wpAny_of_eq (F.cmp_object.ne.bind _) (wpAny_pure (by exact fin)))
  · exact wpAny_tryCatch (wpAny_bind (wpAny_of_eq (F.cmp_object.ne.bind _) (wpAny_pure (by exact fin))))
theorem rc_ne {b tb : Value} {Q : Value → Shared → Prop} (hu : A.units + 1 < cLine) (X : K.In s.heap) (I : PySem.W.InstAt s.heap x ox C od) (hb : PySem.W.Looks (model prog w) s.heap (typeOf b) tb) (hn : PySem.W.notFirst K C tb = true)
    (hm : PySem.W.mroIn K C (.type "object") = some true) (hs : PySem.W.findIn K (.ref C) "__eq__" = some (some (.ref f))) (hf : PySem.W.isFn K (.ref f) = true) (hne : PySem.W.findIn K (.ref C) "__ne__" = some (some (.builtin "object.__ne__")))
    (h : wpAny (model prog w) A.in1 (call (.ref f) [.ref x, b]) (fun v s' => ∃ r, v = .bool r ∧ Q (.bool (!r)) s') E s) : wpAny (model prog w) A (richCompare .NotEq (.ref x) b) Q E s := by
  have one : wpAny (model prog w) A (tryCompare (.ref x) "__ne__" b) (fun r s' => ∃ v, r = some v ∧ Q v s') E s := by
    unfold tryCompare
    refine wpAny_bind (ifBound_ne X I hne (wpAny_call (codeAny_call_builtin F.cmp_object.ne.plain F.cmpEntry_ne (PySem.W.check_slot F.cmpKind_ne F.cmpSplit_ne (I.type.andThen (PySem.W.looks_mroIn X hm)) (F.cmpArgs_ne _ _)
      (entry_ne (A := A.in1) X I hs hf hu (wpAny_mono h (fun v s' hv => ?_) fun _ _ e => e))))))
    obtain ⟨r, rfl, hq⟩ := hv
    first
      | exact ⟨r, rfl, wpAny_pure ⟨_, rfl, hq⟩⟩
      | exact ⟨r, rfl, wpAny_pure (wpAny_pure ⟨_, rfl, hq⟩)⟩
      | exact ⟨r, rfl, _, rfl, hq⟩
  unfold richCompare
  simp only [oneThing_ref]
  refine wpAny_holding (wpAny_bind (wpAny_cRoomFor (Nat.lt_of_succ_lt hu) ?_))
  refine wpAny_bind (I.type.here (wpAny_bind (hb.here ?_)))
  split
  · rename_i q
    have e : PySem.W.subIn K tb (.ref C) = some false := by
      rcases Bool.or_eq_true_iff.mp hn with e | e
      · rw [beq_iff_eq.mp e] at q; simp at q
      · exact beq_iff_eq.mp e
    refine wpAny_bind ((PySem.W.looks_subIn X e).here ?_)
    simp only [Bool.false_eq_true, if_false]
    refine wpAny_bind (wpAny_mono one (fun r s' z => ?_) fun _ _ e => e)
    obtain ⟨v, rfl, hq⟩ := z
    exact wpAny_pure hq
  · refine wpAny_bind (wpAny_pure ?_)
    simp only [Bool.false_eq_true, if_false]
    refine wpAny_bind (wpAny_mono one (fun r s' z => ?_) fun _ _ e => e)
    obtain ⟨v, rfl, hq⟩ := z
    exact wpAny_pure hq
end
section
variable {X : Cx} {n : Nat} {CX : CXT} {C f : Addr} {fd : FuncData} {ps : List Str} {sp : Sp} {E : XK}
/-- a def of the text, called from below -/
theorem call_own (F : FnOk X.prog X.w X.K X.mg X.base CX n f fd ps sp) (hb : Binds X.K fd ps []) (hx : Passes CX X E) {A : Around} (sb : Sub X n A) {pins : List (Addr × Obj)} {σ : L2.St} {H : Hp} {s : Shared} (I : Inv X pins σ H s) {vs : List V} {us : List Value} (r2 : Vals vs us) {Q : VK} (hsp : sp vs H Q E) :
    wpAny (model X.prog X.w) A (call (.ref f) us) (fun v s' => ∃ z H', Inv X pins σ H' s' ∧ RelV z v ∧ Q z H') X.xe s := by
  have e0 : Env0 X.prog X.w X.K X.mg X.base A X.stack s H := by
    have e := I.env0
    exact ⟨by rw [sb.fr]; exact e.frames, e.mod, e.bs, e.bsz, e.funs, e.frf, e.hok, e.bare⟩
  have hl := F.len _ _ _ _ hsp
  refine wpAny_call (codeAny_mono (F.run A X.stack s H ⟨us, []⟩ us vs _ E sb.room e0 (by
    have := hb s us I.kIn (by rw [List.append_nil, ← r2.length]; exact hl)
    simpa using this) r2 hsp) fun r s' hq => ?_)
  cases r with
  | error e => exact hx pins σ H s e s' I hq
  | ok fl =>
    cases fl with
    | ret w =>
      obtain ⟨z, H', I', rz, ez⟩ := I.after hq
      exact ⟨z, H', I', rz, ez⟩
    | next => exact False.elim hq
    | brk => exact False.elim hq
    | cont => exact False.elim hq
/-- what == (neg: !=) of two instances of the class asks -/
def rOwn (C : Addr) (sp : Sp) (E : XK) (neg : Bool) : R2 := fun x y H Q => ∃ a b dx dy fs gs, x = .ref a ∧ y = .ref b ∧ H a = some (.ins C dx fs) ∧ H b = some (.ins C dy gs) ∧ sp [.ref a, .ref b] H (fun v H' => ∃ r, v = .bl r ∧ Q (.bl (neg != r)) H') E
theorem op_eqOwn (F : FnOk X.prog X.w X.K X.mg X.base CX n f fd ps sp) (hr : Room n X.A) (hs : PySem.W.findIn X.K (.ref C) "__eq__" = some (some (.ref f))) (hf : PySem.W.isFn X.K (.ref f) = true) (hb : Binds X.K fd ps []) (hx : Passes CX X E) : OpR X (compareOp .Eq) (rOwn C sp E false) := by
  intro pins s σ H x y v u Q I rx ry hq
  obtain ⟨a, b, dx, dy, fs, gs, rfl, rfl, ha, hb', hsp⟩ := hq
  cases rx
  cases ry
  obtain ⟨mA, J, _⟩ := ins_get I.hok ha
  obtain ⟨mB, J', _⟩ := ins_get I.hok hb'
  obtain ⟨od, J, _⟩ := J.look
  obtain ⟨od', J', _⟩ := J'.look
  have sb : Sub X n X.A := ⟨hr, rfl⟩
  have r2 : Vals [V.ref a, V.ref b] [Value.ref a, Value.ref b] := .cons rfl (.cons rfl .nil)
  obtain ⟨m, hF⟩ := I.fr
  show wpAny (model X.prog X.w) X.A (richCompare .Eq _ _) (EP X pins σ Q) X.xe s
  refine PySem.W.cmp_K (op := .Eq) (tb := .ref C) sb.room.units0 hF I.ok.mod.kin J J'.type (by simp [PySem.W.notFirst]) hs hf ?_
  refine wpAny_mono (call_own F hb hx sb I r2 hsp) (fun v s' hv => ?_) fun _ _ e => e
  obtain ⟨z, H', I', rz, r, rfl, q⟩ := hv
  cases rz
  exact ⟨.bl r, H', I', rfl, by cases r <;> exact q⟩
theorem op_neOwn (F : FnOk X.prog X.w X.K X.mg X.base CX n f fd ps sp) (hr : Room (n + 1) X.A) (hs : PySem.W.findIn X.K (.ref C) "__eq__" = some (some (.ref f))) (hf : PySem.W.isFn X.K (.ref f) = true) (hm : PySem.W.mroIn X.K C (.type "object") = some true)
    (hne : PySem.W.findIn X.K (.ref C) "__ne__" = some (some (.builtin "object.__ne__"))) (hb : Binds X.K fd ps []) (hx : Passes CX X E) : OpR X (compareOp .NotEq) (rOwn C sp E true) := by
  intro pins s σ H x y v u Q I rx ry hq
  obtain ⟨a, b, dx, dy, fs, gs, rfl, rfl, ha, hb', hsp⟩ := hq
  cases rx
  cases ry
  obtain ⟨mA, J, _⟩ := ins_get I.hok ha
  obtain ⟨mB, J', _⟩ := ins_get I.hok hb'
  obtain ⟨od, J, _⟩ := J.look
  obtain ⟨od', J', _⟩ := J'.look
  have sb : Sub X (n + 1) X.A := ⟨hr, rfl⟩
  have r2 : Vals [V.ref a, V.ref b] [Value.ref a, Value.ref b] := .cons rfl (.cons rfl .nil)
  show wpAny (model X.prog X.w) X.A (richCompare .NotEq _ _) (EP X pins σ Q) X.xe s
  refine rc_ne (tb := .ref C) sb.in1.room.units0 I.kIn J J'.type (by simp [PySem.W.notFirst]) hm hs hf hne ?_
  refine wpAny_mono (call_own F hb hx sb.in1 I r2 hsp) (fun v s' hv => ?_) fun _ _ e => e
  obtain ⟨z, H', I', rz, r, rfl, q⟩ := hv
  cases rz
  exact ⟨r, rfl, .bl (!r), H', I', rfl, by cases r <;> exact q⟩
end
end GN

/-! str(x) by an own __str__; == and != of an instance and a value of another type -/
namespace GS
open PySem PySem.Spec PyProof.Rows L2 GN
section
variable {X : Cx} {n : Nat} {CX : CXT} {C f : Addr} {fd : FuncData} {ps : List Str} {sp : Sp} {E : XK}
def rOth (K : PySem.W.Frag) (C : Addr) (sp : Sp) (E : XK) (neg : Bool) : R2 := fun x y H Q => ∃ a dx fs t, x = .ref a ∧ H a = some (.ins C dx fs) ∧ TyX K H y t ∧ PySem.W.notFirst K C t = true ∧ sp [.ref a, y] H (fun v H' => ∃ r, v = .bl r ∧ Q (.bl (neg != r)) H') E
theorem op_eqOth (F : FnOk X.prog X.w X.K X.mg X.base CX n f fd ps sp) (hr : Room n X.A) (hs : PySem.W.findIn X.K (.ref C) "__eq__" = some (some (.ref f))) (hf : PySem.W.isFn X.K (.ref f) = true) (hb : Binds X.K fd ps []) (hx : Passes CX X E) : OpR X (compareOp .Eq) (rOth X.K C sp E false) := by
  intro pins s σ H x y v u Q I rx ry hq
  obtain ⟨a, dx, fs, t, rfl, ha, ty, nf, hsp⟩ := hq
  cases rx
  obtain ⟨mA, J, _⟩ := ins_get I.hok ha
  obtain ⟨od, J, _⟩ := J.look
  obtain ⟨Pt, Z, p, _⟩ := kit_of I ry ty
  have sb : Sub X n X.A := ⟨hr, rfl⟩
  have r2 : Vals [V.ref a, y] [Value.ref a, u] := .cons rfl (.cons ry .nil)
  obtain ⟨m, hF⟩ := I.fr
  show wpAny (model X.prog X.w) X.A (richCompare .Eq _ _) (EP X pins σ Q) X.xe s
  refine PySem.W.cmp_K (op := .Eq) (tb := t) sb.room.units0 hF I.ok.mod.kin J (Z.ty _ _ I.kIn p) nf hs hf ?_
  refine wpAny_mono (call_own F hb hx sb I r2 hsp) (fun v s' hv => ?_) fun _ _ e => e
  obtain ⟨z, H', I', rz, r, rfl, q⟩ := hv
  cases rz
  exact ⟨.bl r, H', I', rfl, by cases r <;> exact q⟩
theorem op_neOth (F : FnOk X.prog X.w X.K X.mg X.base CX n f fd ps sp) (hr : Room (n + 1) X.A) (hs : PySem.W.findIn X.K (.ref C) "__eq__" = some (some (.ref f))) (hf : PySem.W.isFn X.K (.ref f) = true) (hm : PySem.W.mroIn X.K C (.type "object") = some true)
    (hne : PySem.W.findIn X.K (.ref C) "__ne__" = some (some (.builtin "object.__ne__"))) (hb : Binds X.K fd ps []) (hx : Passes CX X E) : OpR X (compareOp .NotEq) (rOth X.K C sp E true) := by
  intro pins s σ H x y v u Q I rx ry hq
  obtain ⟨a, dx, fs, t, rfl, ha, ty, nf, hsp⟩ := hq
  cases rx
  obtain ⟨mA, J, _⟩ := ins_get I.hok ha
  obtain ⟨od, J, _⟩ := J.look
  obtain ⟨Pt, Z, p, _⟩ := kit_of I ry ty
  have sb : Sub X (n + 1) X.A := ⟨hr, rfl⟩
  have r2 : Vals [V.ref a, y] [Value.ref a, u] := .cons rfl (.cons ry .nil)
  show wpAny (model X.prog X.w) X.A (richCompare .NotEq _ _) (EP X pins σ Q) X.xe s
  refine rc_ne (tb := t) sb.in1.room.units0 I.kIn J (Z.ty _ _ I.kIn p) nf hm hs hf hne ?_
  refine wpAny_mono (call_own F hb hx sb.in1 I r2 hsp) (fun v s' hv => ?_) fun _ _ e => e
  obtain ⟨z, H', I', rz, r, rfl, q⟩ := hv
  cases rz
  exact ⟨r, rfl, .bl (!r), H', I', rfl, by cases r <;> exact q⟩
/-- str(x) of an instance whose class has a __str__ of its own -/
def rStrOwn (C : Addr) (sp : Sp) (E : XK) : List V → Hp → VK → Prop := fun vs H Q => ∃ a dx fs, vs = [.ref a] ∧ H a = some (.ins C dx fs) ∧ sp [.ref a] H (fun v H' => ∃ z : Str, v = .str z ∧ Q (.str z) H') E
theorem cr_strOwn (F : FnOk X.prog X.w X.K X.mg X.base CX n f fd ps sp) (hr : Room (n + 2) X.A) (hs : PySem.W.findIn X.K (.ref C) "__str__" = some (some (.ref f))) (hf : PySem.W.isFn X.K (.ref f) = true) (hb : Binds X.K fd ps []) (hx : Passes CX X E) : CallR X (.type "str") (rStrOwn C sp E) := by
  intro pins s σ H vs us Q I r h
  obtain ⟨a, dx, fs, rfl, ha, hsp⟩ := h
  have er : us = [Value.ref a] := Vals.ref1 r
  subst er
  obtain ⟨mA, J, _⟩ := ins_get I.hok ha
  obtain ⟨od, J, _⟩ := J.look
  have sb : Sub X (n + 2) X.A := ⟨hr, rfl⟩
  have r2 : Vals [V.ref a] [Value.ref a] := .cons rfl .nil
  refine PySem.W.kso_call sb.in1.in1.room.units0 I.kIn J hs hf ?_
  refine wpAny_mono (call_own F hb hx sb.in1.in1 I r2 hsp) (fun v s' hv => ?_) fun _ _ e => e
  obtain ⟨z, H', I', rz, y, rfl, q⟩ := hv
  obtain ⟨t, rfl⟩ := rz
  exact ⟨.str y, H', I', ⟨t, rfl⟩, q⟩
end
end GS

/-! ints in texts, read back; rows of three ints -/
namespace NX
open PySem TL NumText
def tI (i : Int) : Str := toString i
theorem tl_int (i : Int) : tl (tI i) = if i < 0 then 45 :: numL i.natAbs else numL i.natAbs := by
  cases i with
  | ofNat m => exact tl_num m
  | negSucc m =>
    rw [if_pos (Int.negSucc_lt_zero m)]
    show tl (Str.ofString ("-" ++ toString (m + 1))) = 45 :: numL (m + 1)
    rw [tl_ofString, String.toList_append, List.map_append, ← tl_num (m + 1), tl_ofString]
    rfl
theorem sub0 (x y : Str) : Builtin.Str.subAt x y 0 = ((tl x).take y.length == tl y) := by
  rw [PySem.StrLaws.subAt_eq, List.drop_zero]
theorem len1 (c : Nat) : ((⟨#[c]⟩ : Str)).length = 1 := rfl
theorem mi : ("-" : Str) = ⟨#[45]⟩ := by decide +kernel
theorem ze : ("0" : Str) = ⟨#[48]⟩ := by decide +kernel
theorem rp_neg {w : Str} {l : List Nat} (h : tl w = 45 :: l) : tl (Txt.removeprefix w "-") = l := by
  have hl : w.length = l.length + 1 := by rw [len_tl, h]; rfl
  unfold Txt.removeprefix
  rw [mi, sub0, len1, h, if_pos (by rfl)]
  show tl (if (w.length - 1 == w.length) = true then w else Builtin.Str.strSub w 1 w.length) = l
  rw [if_neg (by rw [beq_iff_eq]; omega), tl_strSub_end, h]
  rfl
theorem rp_pos {w : Str} (h : ∀ l, tl w ≠ 45 :: l) : Txt.removeprefix w "-" = w := by
  unfold Txt.removeprefix
  rw [mi, sub0, len1, if_neg]
  · rfl
  · intro z
    have z2 := eq_of_beq z
    cases hw : tl w with
    | nil => rw [hw] at z2; cases z2
    | cons c l =>
      rw [hw] at z2
      have : c = 45 := (List.cons.inj z2).1
      exact h l (by rw [hw, this])
/-- a word that is_numeral takes -/
def isNum (w : Str) : Bool := (Txt.isascii (Txt.removeprefix w "-") && Txt.isdigit (Txt.removeprefix w "-")) && (w == "0" || !Txt.startswith (Txt.removeprefix w "-") "0")
theorem dig_of : ∀ c : _root_.Fin 128, Unicode.isDigit c.val = (decide (48 ≤ c.val) && decide (c.val ≤ 57)) := by decide +kernel
theorem asc {d : Str} : Txt.isascii d = true ↔ ∀ c ∈ tl d, c < 128 := by
  unfold Txt.isascii
  rw [← Array.all_toList, List.all_eq_true]
  constructor
  · intro h c hc; exact of_decide_eq_true (h c hc)
  · intro h c hc; exact decide_eq_true (h c hc)
theorem both_dig {d : Str} : (Txt.isascii d && Txt.isdigit d) = true ↔ AllDigits (tl d) ∧ tl d ≠ [] := by
  rw [Bool.and_eq_true, asc]
  unfold Txt.isdigit
  rw [Bool.and_eq_true, ← Array.all_toList, List.all_eq_true, decide_eq_true_eq, len_tl]
  constructor
  · rintro ⟨h1, h2, h3⟩
    refine ⟨fun c hc => ?_, fun z => by rw [z] at h2; exact absurd h2 (by decide)⟩
    have := h3 c hc
    rw [dig_of ⟨c, h1 c hc⟩, Bool.and_eq_true, decide_eq_true_eq, decide_eq_true_eq] at this
    exact this
  · rintro ⟨h1, h2⟩
    refine ⟨fun c hc => by have := h1 c hc; omega, ?_, fun c hc => ?_⟩
    · cases hd : tl d with
      | nil => exact absurd hd h2
      | cons _ _ => exact Nat.succ_pos _
    · have := h1 c hc
      rw [dig_of ⟨c, by omega⟩, decide_eq_true this.1, decide_eq_true this.2]
      rfl
theorem num_head (n : Nat) (h : 0 < n) : ∃ c l, numL n = c :: l ∧ c ≠ 48 := by
  induction n using Nat.strongRecOn with
  | _ n ih =>
    by_cases k : n < 10
    · exact ⟨48 + n, [], numL_lt k, by omega⟩
    · obtain ⟨c, l, e, hc⟩ := ih (n / 10) (by omega) (by omega)
      exact ⟨c, l ++ [48 + n % 10], by rw [numL_step (by omega), e]; rfl, hc⟩
theorem starts0 {d : Str} {c : Nat} {l : List Nat} (h : tl d = c :: l) (hc : c ≠ 48) : Txt.startswith d "0" = false := by
  unfold Txt.startswith
  rw [ze, sub0, len1, h]
  have : ([c] == [48]) = false := by rw [beq_eq_false_iff_ne]; intro z; exact hc (List.cons.inj z).1
  show (_ && ((c :: l).take 1 == [48])) = false
  rw [show (c :: l).take 1 = [c] from rfl, this, Bool.and_false]
theorem dig_ne {n : Nat} : ∀ l, numL n ≠ 45 :: l := fun l z => by
  have := numL_digits n 45 (by rw [z]; exact List.mem_cons_self)
  omega
theorem rp_int (n : Int) : tl (Txt.removeprefix (tI n) "-") = numL n.natAbs := by
  have h := tl_int n
  by_cases c : n < 0
  · rw [if_pos c] at h; exact rp_neg h
  · rw [if_neg c] at h
    rw [rp_pos (by rw [h]; exact dig_ne), h]
theorem isNum_int (n : Int) : isNum (tI n) = true := by
  unfold isNum
  have h := rp_int n
  rw [both_dig.mpr (by rw [h]; exact ⟨numL_digits _, numL_ne _⟩), Bool.true_and]
  by_cases z : n = 0
  · subst z; decide +kernel
  · obtain ⟨c, l, e, hc⟩ := num_head n.natAbs (by omega)
    rw [starts0 (h.trans e) hc]
    exact Bool.or_true _
theorem len_int {n : Int} (h : n.natAbs ≤ 1000000000) : (tI n).length ≤ 11 := by
  have := numL_len (n := n.natAbs) (k := 10) (by decide) (Nat.lt_of_le_of_lt h (by decide))
  rw [len_tl, tl_int]
  split
  · rw [List.length_cons]; omega
  · omega
theorem read_int {n : Int} (h : n.natAbs ≤ 1000000000) : intText? (tI n) = some n := by
  have hl := len_int h
  have ht := tl_int n
  by_cases c : n < 0
  · rw [if_pos c] at ht
    have e := intText_neg (x := tI n) ht (numL_digits _) (numL_ne _) (by omega)
    rw [e, numL_val]
    congr 1
    omega
  · rw [if_neg c] at ht
    have e := intText_digits (x := tI n) (by show AllDigits (tl (tI n)); rw [ht]; exact numL_digits _) (by show tl (tI n) ≠ []; rw [ht]; exact numL_ne _) (by omega)
    rw [e]
    show some ((digitsVal (tl (tI n)) : Nat) : Int) = _
    rw [ht, numL_val]
    congr 1
    omega
/-- a numeral can be read -/
theorem num_reads {w : Str} (h : isNum w = true) (hl : w.length ≤ 4300) : ∃ n, intText? w = some n := by
  unfold isNum at h
  rw [Bool.and_eq_true] at h
  obtain ⟨h1, h2⟩ := both_dig.mp h.1
  by_cases c : ∃ l, tl w = 45 :: l
  · obtain ⟨l, e⟩ := c
    rw [rp_neg e] at h1 h2
    exact ⟨_, intText_neg e h1 h2 hl⟩
  · rw [rp_pos (fun l z => c ⟨l, z⟩)] at h1 h2
    exact ⟨_, intText_digits h1 h2 hl⟩
/-- what reading_of tells -/
def rdw (w : Str) : Option Int := if 11 < w.length || !isNum w then none else match intText? w with
  | some n => if n.natAbs ≤ 1000000000 then some n else none
  | none => none
theorem rdw_int {n : Int} (h : n.natAbs ≤ 1000000000) : rdw (tI n) = some n := by
  unfold rdw
  rw [isNum_int n, decide_eq_false (show ¬ 11 < (tI n).length by have := len_int h; omega)]
  show (match intText? (tI n) with | some n => if n.natAbs ≤ 1000000000 then some n else none | none => none) = _
  rw [read_int h]
  exact if_pos h
abbrev Ent := Int × Int × Int
def okE (a b c : Int) : Bool := !(decide (b ≤ a) || (decide (c < 0) || decide (1000000 < c)))
/-- what entry_of tells -/
def entw (ws : List Str) : Option Ent := match ws.map rdw with
  | [some a, some b, some c] => if okE a b c then some (a, b, c) else none
  | _ => none
structure Val (e : Ent) : Prop where
  lo : e.1.natAbs ≤ 1000000000
  hi : e.2.1.natAbs ≤ 1000000000
  lt : e.1 < e.2.1
  am : 0 ≤ e.2.2
  le : e.2.2 ≤ 1000000
theorem Val.ok {e : Ent} (h : Val e) : okE e.1 e.2.1 e.2.2 = true := by
  unfold okE
  rw [decide_eq_false (by have := h.lt; omega), decide_eq_false (by have := h.am; omega), decide_eq_false (by have := h.le; omega)]
  rfl
def wds (e : Ent) : List Str := [tI e.1, tI e.2.1, tI e.2.2]
theorem entw_of {e : Ent} (h : Val e) : entw (wds e) = some e := by
  unfold entw wds
  have h3 : e.2.2.natAbs ≤ 1000000000 := by have := h.am; have := h.le; omega
  show (match [rdw (tI e.1), rdw (tI e.2.1), rdw (tI e.2.2)] with | [some a, some b, some c] => if okE a b c then some (a, b, c) else none | _ => none) = _
  rw [rdw_int h.lo, rdw_int h.hi, rdw_int h3]
  show (if okE e.1 e.2.1 e.2.2 then some (e.1, e.2.1, e.2.2) else none) = _
  rw [h.ok]
  rfl
def row (e : Ent) : Str := Txt.join " " (wds e)
def txt (T : List Ent) : Str := Txt.join "\n" (T.map row)
theorem blk : tl (" " : Str) = [32] := by decide +kernel
theorem nlk : tl ("\n" : Str) = [10] := by decide +kernel
theorem int_signs {n : Int} {c : Nat} (h : c ∈ tl (tI n)) : c = 45 ∨ (48 ≤ c ∧ c ≤ 57) := by
  rw [tl_int] at h
  split at h
  · rcases List.mem_cons.mp h with e | e
    · exact .inl e
    · exact .inr (numL_digits _ c e)
  · exact .inr (numL_digits _ c h)
theorem split_row (e : Ent) : Txt.split (row e) " " = wds e := by
  refine split_join (s := 32) (S := []) blk (by decide +kernel) (by unfold wds; simp) fun p hp z => ?_
  unfold wds at hp
  simp only [List.mem_cons, List.not_mem_nil, or_false] at hp
  rcases hp with rfl | rfl | rfl <;> (have := int_signs z; omega)
theorem mem_joinL {S : List Nat} {c : Nat} : ∀ {ps : List (List Nat)}, c ∈ joinL S ps → c ∈ S ∨ ∃ p ∈ ps, c ∈ p
  | [], h => (List.not_mem_nil h).elim
  | [p], h => .inr ⟨p, List.mem_singleton.mpr rfl, h⟩
  | p :: q :: r, h => by
    rcases List.mem_append.mp (show c ∈ p ++ (S ++ joinL S (q :: r)) from h) with h | h
    · exact .inr ⟨p, List.mem_cons_self, h⟩
    rcases List.mem_append.mp h with h | h
    · exact .inl h
    · rcases mem_joinL h with h | ⟨x, hx, h⟩
      · exact .inl h
      · exact .inr ⟨x, List.mem_cons_of_mem _ hx, h⟩
theorem row_signs {e : Ent} {c : Nat} (h : c ∈ tl (row e)) : c = 32 ∨ c = 45 ∨ (48 ≤ c ∧ c ≤ 57) := by
  unfold row at h
  rw [join_eq, tl_join, blk] at h
  rcases mem_joinL h with h | ⟨p, hp, h⟩
  · exact .inl (List.mem_singleton.mp h)
  · obtain ⟨x, hx, rfl⟩ := List.mem_map.mp hp
    unfold wds at hx
    simp only [List.mem_cons, List.not_mem_nil, or_false] at hx
    rcases hx with rfl | rfl | rfl <;> exact .inr (int_signs h)
theorem split_txt {T : List Ent} (h : T ≠ []) : Txt.split (txt T) "\n" = T.map row :=
  split_join (s := 10) (S := []) nlk (by decide +kernel) (fun z => h (List.map_eq_nil_iff.mp z)) fun p hp z => by
    obtain ⟨e, _, rfl⟩ := List.mem_map.mp hp
    have := row_signs z
    omega
theorem row_tl (e : Ent) : tl (row e) = tl (tI e.1) ++ (32 :: (tl (tI e.2.1) ++ (32 :: tl (tI e.2.2)))) := by
  unfold row wds
  rw [join_eq, tl_join, blk]
  rfl
theorem row_form (e : Ent) : ((((Str.empty ++ tI e.1) ++ " ") ++ tI e.2.1) ++ " ") ++ tI e.2.2 = row e := by
  refine ext_tl ?_
  rw [row_tl, tl_append, tl_append, tl_append, tl_append, tl_append, blk]
  show (((([] ++ tl (tI e.1)) ++ [32]) ++ tl (tI e.2.1)) ++ [32]) ++ tl (tI e.2.2) = _
  rw [List.nil_append, List.append_assoc, List.append_assoc, List.append_assoc]
  rfl
theorem txt_nil : txt [] = "" := by decide +kernel
theorem row_ne (e : Ent) : tl (row e) ≠ [] := by
  rw [row_tl]
  intro z
  have := (List.append_eq_nil_iff.mp z).2
  cases this
theorem txt_ne {T : List Ent} (h : T ≠ []) : txt T ≠ "" := by
  cases T with
  | nil => exact absurd rfl h
  | cons e es =>
    intro z
    have := congrArg tl z
    unfold txt at this
    rw [join_eq, tl_join] at this
    cases es with
    | nil => exact row_ne e this
    | cons f fs =>
      have t2 : tl (row e) ++ (tl ("\n" : Str) ++ joinL (tl "\n") ((row f :: fs.map row).map tl)) = [] := this
      exact row_ne e (List.append_eq_nil_iff.mp t2).1
theorem rows_back : ∀ {T : List Ent}, (∀ e ∈ T, Val e) → (T.map row).map (fun r => entw (Txt.split r " ")) = T.map some
  | [], _ => rfl
  | e :: es, h => by
    rw [List.map_cons, List.map_cons, List.map_cons, split_row, entw_of (h e List.mem_cons_self), rows_back fun x hx => h x (List.mem_cons_of_mem _ hx)]
theorem txt_inj {T U : List Ent} (h : ∀ e ∈ T, Val e) (g : ∀ e ∈ U, Val e) (k : txt T = txt U) : T = U := by
  by_cases hT : T = []
  · by_cases hU : U = []
    · rw [hT, hU]
    · rw [hT, txt_nil] at k; exact absurd k.symm (txt_ne hU)
  · by_cases hU : U = []
    · rw [hU, txt_nil] at k; exact absurd k (txt_ne hT)
    · have e1 := split_txt hT
      rw [k, split_txt hU] at e1
      have e2 := rows_back h
      rw [← e1, rows_back g] at e2
      exact ((List.map_inj_right fun a b z => Option.some.inj z).mp e2).symm
end NX

set_option pp.maxSteps 900
/-! the text of a table -/
namespace H8T
open PySem PySem.Spec PyProof.Rows L2 KA KD PH PM RM K52b XU
open XT hiding pairs_get
open WN (ti ti_len ti_log len_app join_len sum_le)
abbrev sTS : Stmt := inClass sTable 5
theorem scTS : FnScope ["self", "low", "high", "amount"] ["self"] (defScope sTS) := ⟨rfl, rfl, rfl, by decide +kernel, rfl, by decide +kernel, by decide +kernel⟩
/-- small entries -/
def Sml (T : List Ent) : Prop := ∀ e ∈ T, e.1.natAbs < 2 ^ 39 ∧ e.2.1.natAbs < 2 ^ 39 ∧ e.2.2.natAbs < 2 ^ 39
def txE (e : Ent) : Str := ((((Str.empty ++ ti e.1) ++ " ") ++ ti e.2.1) ++ " ") ++ ti e.2.2
theorem bl_len : ((" " : Str)).length = 1 := by decide +kernel
theorem txE_len {e : Ent} (h : e.1.natAbs < 2 ^ 39 ∧ e.2.1.natAbs < 2 ^ 39 ∧ e.2.2.natAbs < 2 ^ 39) : (txE e).length ≤ 41 := by
  unfold txE
  have h1 := ti_len h.1
  have h2 := ti_len h.2.1
  have h3 := ti_len h.2.2
  have h0 : (Str.empty).length = 0 := rfl
  have hc := bl_len
  rw [len_app, len_app, len_app, len_app, len_app]
  omega
def ttx (T : List Ent) : Str := Txt.join "\n" (T.map txE)
section
variable {P : Program} {w : World} {K : PySem.W.Frag} {mg : Str → Option Value} {base : Heap} {C : Addr}
def teE : TE := fun σ H Q => tJs [tFmt (tVar 1), tC (V.str " "), tFmt (tVar 2), tC (V.str " "), tFmt (tVar 3)] Str.empty σ H fun out H1 => Q (.str out) H1
def spTS (C : Addr) : Sp := fun vs H Q _ => ∃ (x : Addr) (T : List Ent), vs = [.ref x] ∧ TabAt H C x T ∧ T.length ≤ 100 ∧ Sml T ∧ ∀ H', Same H H' → Q (.str (ttx T)) H'
theorem ok_TS {f : Addr} {fd : FuncData} {k : Nat} (F : Fun K "__str__" "Table.__str__" sTS f fd) (T : Tbl K C) : FnOk P w K mg base CX0 (k + 1) f fd ["self"] (spTS C) := by
  refine F.ok scTS (fun vs H Q E h => ?_) (fun cdv A outer s H vs Q E hr h => ?_)
  · obtain ⟨x, T, rfl, _⟩ := h
    rfl
  · obtain ⟨x, es, rfl, ⟨dx, t, ys, hx, ht, tr⟩, le, sm, q⟩ := h
    refine ⟨_, pss_one (ps_ret (pe_join pe_str (pe_lc (own := [("low", 1), ("high", 2), ("amount", 3)]) (g := gTup K 3 (gCons (gName 1) (gCons (gName 2) (gCons (gName 3) gNil)))) (tt := tYes) (te := teE) rfl scTS.nd (pi_tup (pe_fld (pv 0) rfl)) (blkOk_by (own := [("low", 1), ("high", 2), ("amount", 3)]) (N := ["self", "low", "high", "amount"]) (sc := defScope sTS) (by decide +kernel)) (fun _ _ _ _ _ => (pg_tup rfl (pgs_cons (pg_name (i := 1) scTS.nd rfl (Or.inl rfl) (Or.inr rfl)) (pgs_cons (pg_name (i := 2) scTS.nd rfl (Or.inl rfl) (Or.inr rfl)) (pgs_cons (pg_name (i := 3) scTS.nd rfl (Or.inl rfl) (Or.inr rfl)) pgs_nil))))) (fun _ _ _ _ _ => pts_nil) (fun _ _ _ _ _ => (pe_joined (.cons (pe_fmt (pv 1)) (.cons pe_str (.cons (pe_fmt (pv 2)) (.cons pe_str (.cons (pe_fmt (pv 3)) .nil)))))))))), ?_⟩
    have hl := tr.length
    refine ⟨⟨_, rfl⟩, .ref x, rfl, x, C, dx, _, .ref t, rfl, hx, T.cl, T.nE, rfl, t, rfl, ⟨_, SqT.of ht⟩, fun D nD => ?_⟩
    refine lc_tup (K := K) (a := t) (xs := ys) (fun i Hz => Hz = upd H D (.lst (((es.take i).map txE).map V.str))) rfl (fun i Hz _ e => by rw [e]; exact SqT.of ((same_new nD) _ _ ht)) ?_ ?_
    · rintro i y Hz hy rfl
      obtain ⟨p, e, rfl, er, hp⟩ := tr.get hy
      have hp2 := (same_new (o := .lst (((es.take i).map txE).map V.str)) nD) _ _ hp
      have hr := sm e (List.mem_of_getElem? er)
      refine ⟨p, _, rfl, SqT.of hp2, rfl, .int e.1, [.int e.2.1, .int e.2.2], rfl, .int e.2.1, [.int e.2.2], rfl, .int e.2.2, [], rfl, rfl, rfl, iteT (B := True) ?_⟩
      have h0 : (Str.empty).length = 0 := rfl
      have l1 := ti_len hr.1
      have l2 := ti_len hr.2.1
      have l3 := ti_len hr.2.2
      have hc := bl_len
      have sl : ∀ {n : Nat}, n ≤ 100 → n ≤ sizeLine := fun h => Nat.le_trans h (by decide)
      refine ⟨.int e.1, rfl, .inr ⟨e.1, rfl, ti_log hr.1, ti e.1, rfl, sl (by rw [len_app]; omega), " ", rfl, sl (by rw [len_app, len_app]; omega), .int e.2.1, rfl, .inr ⟨e.2.1, rfl, ti_log hr.2.1, ti e.2.1, rfl, sl (by rw [len_app, len_app, len_app]; omega), " ", rfl, sl (by rw [len_app, len_app, len_app, len_app]; omega), .int e.2.2, rfl, .inr ⟨e.2.2, rfl, ti_log hr.2.2, ti e.2.2, rfl, sl (by rw [len_app, len_app, len_app, len_app, len_app]; omega), _, upd_same, ?_, ?_⟩⟩⟩⟩
      · rw [List.length_map, List.length_map, List.length_take]
        exact Nat.lt_of_le_of_lt (show _ ≤ 2500 by omega) (by decide)
      · rw [upd_upd, List.take_add_one, er, List.map_append, List.map_append]
        rfl
    rintro Hz rfl
    rw [hl, List.take_length]
    refine ⟨_, D, es.map txE, rfl, rfl, .inl (SqL.of upd_same), ?_, ?_⟩
    · have h1 := sum_le (B := 41) (xs := es.map txE) fun x hx => by
        obtain ⟨r, hr, e⟩ := List.mem_map.mp hx
        rw [← e]
        exact txE_len (sm r hr)
      have h2 : (("\n" : Str)).length = 1 := by decide +kernel
      rw [h2, List.length_map] at *
      omega
    · exact q _ (same_new (o := .lst ((es.map txE).map V.str)) nD)
end
theorem txE_row (e : Ent) : txE e = NX.row e := NX.row_form e
theorem ttx_txt (T : List Ent) : ttx T = NX.txt T := by
  unfold ttx NX.txt
  congr 1
  exact List.map_congr_left fun e _ => txE_row e
end H8T

/-! cls(..), cls a parameter that holds a class -/
namespace GML
open PySem PySem.Spec PyProof.Rows L2
/-- cls(..), cls a parameter that holds a class -/
theorem pe_makeL {X : Cx} {CX : CXT} {k i : Nat} {C f : Addr} {fd : FuncData} {ps : List Str} {sp : Sp} {dvs : List V} {ds : List Value} {E : XK} {x : Str} {p pos : Pos} {e : Expr} {es : List Expr} {t : TA}
    (M : Mk X.K C f) (F : FnOk X.prog X.w X.K X.mg X.base CX k f fd ps sp) (hr : Room (k + 1) X.A) (hN : X.N[i]? = some x) (hv : Vis X.env.scope x) (hb : Binds X.K fd ps ds) (hd : Vals dvs ds) (hx : Passes CX X E) (ha : PA X (e :: es) t)
    (hdb : (x == ("__debug__" : Str)) = false := by decide) (hcd : (x == ("__classdict__" : Str)) = false := by decide)
    (he : starEach (e :: es) X.env = (false, eval e X.env) :: starEach es X.env := by rfl) (hpl : (backTo pos (starEach es X.env)).any (·.1) = false := by rfl) :
    PE X (.Call (.Name x p) (e :: es) [] pos) (fun σ H Q => σ[i]? = some (some (.ref C)) ∧ tMake C sp dvs E t σ H Q) := by
  refine ⟨fun pins s σ H Q I ⟨hs, ht⟩ => ?_⟩
  refine wpAny_Call_Name_kw (thn ((pe_var (pos := p) hN hv hdb hcd).run pins s σ H (fun v H1 => v = .ref C ∧ H1 = H) I ⟨.ref C, hs, rfl, rfl⟩) fun u s1 ⟨v, H1, I1, r1, e1, e2⟩ => ?_)
  subst e1 e2
  cases r1
  exact PySem.W.callWith_K (h₀ := X.base) I.ok.mod.kin M.kp (thn (ha.run pos pins s1 σ _ _ I1 ht) fun us s2 ⟨vs, H2, I2, r, q⟩ => ⟨I2.kIn, run_make M F hr hb hd hx I2 r q⟩) he hpl
end GML

set_option pp.maxSteps 900
/-! words that are numbers; a table read from a text; equal tables -/
namespace Z5K
open PySem PySem.Spec PyProof.Rows L2 KA KD PH PM RM K52b XU GML
open XT hiding pairs_get
open NX (isNum rdw entw okE Val tI wds)
abbrev sNU : Stmt := topS 5
abbrev sRD : Stmt := topS 6
abbrev sNM : Stmt := topS 9
abbrev sRO : Stmt := topS 10
abbrev sEO : Stmt := topS 14
abbrev sPA : Stmt := inClass sTable 1
abbrev sEQ : Stmt := inClass sTable 4
theorem scNU : FnScope ["value"] ["value"] (defScope sNU) := ⟨rfl, rfl, rfl, by decide +kernel, rfl, by decide +kernel, by decide +kernel⟩
theorem scRD : FnScope ["value"] ["value"] (defScope sRD) := ⟨rfl, rfl, rfl, by decide +kernel, rfl, by decide +kernel, by decide +kernel⟩
theorem scNM : FnScope ["word", "digits"] ["word"] (defScope sNM) := ⟨rfl, rfl, rfl, by decide +kernel, rfl, by decide +kernel, by decide +kernel⟩
theorem scRO : FnScope ["word", "reading"] ["word"] (defScope sRO) := ⟨rfl, rfl, rfl, by decide +kernel, rfl, by decide +kernel, by decide +kernel⟩
theorem scEO : FnScope ["words", "numbers", "low", "high", "amount", "word"] ["words"] (defScope sEO) := ⟨rfl, rfl, rfl, by decide +kernel, rfl, by decide +kernel, by decide +kernel⟩
theorem scPA : FnScope ["cls", "text", "entries", "row"] ["cls", "text"] (defScope sPA) := ⟨rfl, rfl, rfl, by decide +kernel, rfl, by decide +kernel, by decide +kernel⟩
theorem scEQ : FnScope ["self", "other"] ["self", "other"] (defScope sEQ) := ⟨rfl, rfl, rfl, by decide +kernel, rfl, by decide +kernel, by decide +kernel⟩
def optV : Option Int → V
  | none => .non | some s => .int s
theorem opt_flat (os : List (Option Int)) : (os.map optV).all flatV = true := by
  rw [List.all_eq_true]
  intro v hv
  obtain ⟨o, _, rfl⟩ := List.mem_map.mp hv
  cases o <;> rfl
theorem opt_in : ∀ os : List (Option Int), inV .non (os.map optV) = os.any Option.isNone
  | [] => rfl
  | none :: os => rfl
  | some n :: os => by
    have := opt_in os
    show (eqV (.int n) .non || inV .non (os.map optV)) = (false || os.any Option.isNone)
    rw [this]
    rfl
theorem ev_tr : ∀ rs ss : List Ent, PyData.eqvAll (dTrips rs) (dTrips ss) = decide (rs = ss)
  | [], [] => by simp [dTrips, PyData.eqvAll]
  | [], _ :: _ => by simp [dTrips, PyData.eqvAll]
  | _ :: _, [] => by simp [dTrips, PyData.eqvAll]
  | (a, b, x) :: rs, (c, d, y) :: ss => by
    have ih := ev_tr rs ss
    show (PyData.eqv (.tuple [.int a, .int b, .int x]) (.tuple [.int c, .int d, .int y]) && PyData.eqvAll (dTrips rs) (dTrips ss)) = _
    rw [ih]
    simp [PyData.eqv, PyData.eqvAll, Bool.beq_eq_decide_eq]
theorem shaped_tt (rs : List Ent) : SeqAt.shaped (.tuple (dTrips rs)) = true :=
  shaped_of (by simp only [PyData.canLay0, lay_trips]) (by have := depth_trips rs; simp only [PyData.depth]; omega)
theorem none_tr : ∀ es : List Ent, ((dTrips es).any fun z => PyData.eqv z .none) = false
  | [] => rfl
  | e :: es => by
    show (PyData.eqv (.tuple [.int e.1, .int e.2.1, .int e.2.2]) .none || (dTrips es).any fun z => PyData.eqv z .none) = false
    rw [none_tr es]
    rfl
theorem strs_at {ws : List Str} {i : Nat} {y : V} (h : (ws.map V.str)[i]? = some y) : ∃ w, ws[i]? = some w ∧ y = .str w := by
  rw [List.getElem?_map] at h
  cases e : ws[i]? with
  | none => rw [e] at h; cases h
  | some r => rw [e] at h; exact ⟨r, rfl, (Option.some.inj h).symm⟩
theorem mk_tab {K : PySem.W.Frag} {C p : Addr} {H : Hp} {xs : List V} {T : List Ent} {Q : VK} {E : XK} (hp : Sq K H p xs) (tr : TripsAt H xs T) (le : T.length ≤ 500) (q : ∀ H' x, Same H H' → H x = none → TabAt H' C x T → Q (.ref x) H') (x dx : Addr) (nx : H x = none) (ndx : H dx = none) (ne : dx ≠ x) :
    spTI K C [V.ref x, V.ref p] (upd (upd H dx (HO.own x)) x (HO.ins C dx [])) (fun v H2 => v = V.non ∧ Q (.ref x) H2) E := by
  have s2 : Same H (upd (upd H dx (.own x)) x (.ins C dx [])) := (same_new ndx).trans (same_new (by rw [upd_ne ne.symm]; exact nx))
  exact ⟨x, p, dx, xs, T, rfl, upd_same, hp.same s2, tr.same s2, le, fun H' keep tab => ⟨rfl, q H' x (fun b o e => keep b o (ne_of_none e nx) (s2 _ _ e)) nx tab⟩⟩
theorem row_len {e : Ent} (v : Val e) : (NX.row e).length ≤ 41 := by
  rw [← H8T.txE_row]
  exact H8T.txE_len ⟨Nat.lt_of_le_of_lt v.lo (by decide), Nat.lt_of_le_of_lt v.hi (by decide), by have := v.am; have := v.le; omega⟩
theorem nl_len : (("\n" : Str)).length = 1 := by decide +kernel
theorem txt_len {T : List Ent} (v : ∀ e ∈ T, Val e) (h : T.length ≤ 200) : (NX.txt T).length ≤ 8400 := by
  have := WN.join_len (sep := "\n") (B := 41) (xs := T.map NX.row) fun x hx => by
    obtain ⟨e, he, rfl⟩ := List.mem_map.mp hx
    exact row_len (v e he)
  rw [nl_len, List.length_map] at this
  show (Txt.join "\n" (T.map NX.row)).length ≤ 8400
  omega
theorem wds_len {e : Ent} (v : Val e) {x : Str} (h : x ∈ wds e) : x.length ≤ 1000000 := by
  unfold NX.wds at h
  simp only [List.mem_cons, List.not_mem_nil, or_false] at h
  have a3 : e.2.2.natAbs ≤ 1000000000 := by have := v.am; have := v.le; omega
  rcases h with rfl | rfl | rfl
  · exact Nat.le_trans (NX.len_int v.lo) (by decide)
  · exact Nat.le_trans (NX.len_int v.hi) (by decide)
  · exact Nat.le_trans (NX.len_int a3) (by decide)
section
variable {P : Program} {w : World} {K : PySem.W.Frag} {mg : Str → Option Value} {base : Heap}
def spNU : Sp := fun vs H Q _ => ∃ z : Int, vs = [.int z] ∧ Q (.bl true) H
theorem ok_NU {f : Addr} {fd : FuncData} {k : Nat} (F : Fun K "is_number" "is_number" sNU f fd) (ms : mg "isinstance" = none) (mi : mg "int" = none) (mb : mg "bool" = none) : FnOk P w K mg base CX0 (k + 1) f fd ["value"] spNU := by
  refine F.ok scNU (fun vs H Q E h => ?_) (fun cdv A outer s H vs Q E hr h => ?_)
  · obtain ⟨z, rfl, _⟩ := h
    rfl
  · obtain ⟨z, rfl, hq⟩ := h
    refine ⟨_, (pss_one (ps_ret (pe_and (pe_callB call_isi (by rfl) ms (by decide +kernel) (pa_cons (pv 0) (pa_cons (pe_bltn (v := .ty "int") (by rfl) mi (by decide +kernel) rfl) pa_nil))) (pe_one (pe_not (pe_callB call_isi (by rfl) ms (by decide +kernel) (pa_cons (pv 0) (pa_cons (pe_bltn (v := .ty "bool") (by rfl) mb (by decide +kernel) rfl) pa_nil)))))))), ?_⟩
    refine ⟨.int z, rfl, _, .ty "int", .type "int", .type "int", true, rfl, .ty "int", .base (.int _), kit_ty (by decide +kernel), true, rfl, iteT ?_⟩
    exact ⟨.int z, rfl, _, .ty "bool", .type "int", .type "bool", false, rfl, .ty "bool", .base (.int _), kit_ty (by decide +kernel), false, rfl, hq⟩
def spRD : Sp := fun vs H Q _ => ∃ z : Int, vs = [.int z] ∧ Q (.bl (decide (z.natAbs ≤ 1000000000))) H
theorem ok_RD {f : Addr} {fd : FuncData} {fNU : Addr} {dNU : FuncData} {k : Nat} (F : Fun K "is_reading" "is_reading" sRD f fd) (GNU : FnOk P w K mg base CX0 (k + 1) fNU dNU ["value"] spNU) (gNU : mg "is_number" = some (.ref fNU)) (kNU : PySem.W.keepIn K (.ref fNU) = true) (bNU : Binds K dNU ["value"] []) (ma : mg "abs" = none) (gL : ∃ u, mg "LIMIT" = some u ∧ RelV (.int 1000000000) u) : FnOk P w K mg base CX0 (k + 2) f fd ["value"] spRD := by
  refine F.ok scRD (fun vs H Q E h => ?_) (fun cdv A outer s H vs Q E hr h => ?_)
  · obtain ⟨z, rfl, _⟩ := h
    rfl
  · obtain ⟨z, rfl, hq⟩ := h
    refine ⟨_, (pss_one (ps_ret (pe_and (pe_call GNU hr (by rfl) gNU kNU bNU .nil pass0 (pa_cons (pv 0) pa_nil)) (pe_one (pe_cmpR op_le (pe_callB call_abs (by rfl) ma (by decide +kernel) (pa_cons (pv 0) pa_nil)) (C8.pe_gc (v := .int 1000000000) (by rfl) gL) (nomark _)))))), ?_⟩
    refine ⟨.int z, rfl, z, rfl, _, rfl, iteT ⟨.int z, rfl, _, rfl, _, _, rfl, rfl, ?_⟩⟩
    show Q (V.bl (decide _)) H
    have e : decide ((if z < 0 then -z else z) ≤ 1000000000) = decide (z.natAbs ≤ 1000000000) := by
      congr 1
      apply propext
      split <;> omega
    rw [e]
    exact hq
def spNM : Sp := fun vs H Q _ => ∃ x : Str, vs = [.str x] ∧ x.length ≤ 4300 ∧ Q (.bl (isNum x)) H
theorem ok_NM {f : Addr} {fd : FuncData} {k : Nat} (F : Fun K "is_numeral" "is_numeral" sNM f fd)  : FnOk P w K mg base CX0 (k + 1) f fd ["word"] spNM := by
  refine F.ok scNM (fun vs H Q E h => ?_) (fun cdv A outer s H vs Q E hr h => ?_)
  · obtain ⟨x, rfl, _⟩ := h
    rfl
  · obtain ⟨x, rfl, hl, hq⟩ := h
    refine ⟨_, (pss_cons (ps_set (i := 1) scNM.nd rfl (.inl rfl) (pe_m1 PySem.F.slot_str_removeprefix PySem.F.type_str_removeprefix mt_removeprefix (pv 0) pe_str))
      (pss_cons (ps_if (PW.pt (pw_or (pt_not (pt_val (pe_m0 PySem.F.slot_str_isascii PySem.F.type_str_isascii mt_isascii (pv 1)))) (pw_or1 (pt_not (pt_val (pe_m0 PySem.F.slot_str_isdigit PySem.F.type_str_isdigit mt_isdigit (pv 1))))))) (pss_one (ps_ret pe_bl)) pss_nil)
      (pss_one (ps_ret (pe_or (pe_cmpR op_eq (pv 0) pe_str (nomark _)) (pe_one (pe_not (pe_m1 PySem.F.slot_str_startswith PySem.F.type_str_startswith mt_startswith (pv 1) pe_str)))))))), ?_⟩
    have sl : x.length ≤ sizeLine := Nat.le_trans hl (by decide)
    refine ⟨.str x, rfl, ⟨_, rfl⟩, x, "-", rfl, rfl, sl, ?_⟩
    unfold isNum at hq
    generalize Txt.removeprefix x "-" = d at hq ⊢
    refine ⟨.str d, rfl, ⟨_, rfl⟩, d, rfl, rfl, trivial, _, rfl, ?_⟩
    cases ha : Txt.isascii d with
    | false =>
      rw [ha] at hq
      exact iteT hq
    | true =>
      refine iteF ⟨.str d, rfl, ⟨_, rfl⟩, d, rfl, rfl, trivial, _, rfl, ?_⟩
      cases hd : Txt.isdigit d with
      | false =>
        rw [ha, hd] at hq
        exact iteT hq
      | true =>
        rw [ha, hd] at hq
        refine iteF ⟨.str x, rfl, rfl, _, rfl, ?_⟩
        by_cases e : x = "0"
        · rw [show (x == "0") = true from beq_iff_eq.mpr e] at hq
          rw [decide_eq_true (show V.str x = V.str "0" by rw [e])]
          exact iteT hq
        · rw [show (x == "0") = false from beq_eq_false_iff_ne.mpr e] at hq
          rw [decide_eq_false (show ¬ V.str x = V.str "0" from fun z => e (V.str.inj z))]
          exact iteF ⟨.str d, rfl, ⟨_, rfl⟩, d, "0", rfl, rfl, _, rfl, hq⟩
def spRO : Sp := fun vs H Q _ => ∃ x : Str, vs = [.str x] ∧ x.length ≤ 1000000 ∧ Q (optV (rdw x)) H
theorem ok_RO {f : Addr} {fd : FuncData} {fRD : Addr} {dRD : FuncData} {fNM : Addr} {dNM : FuncData} {k : Nat} (F : Fun K "reading_of" "reading_of" sRO f fd) (GRD : FnOk P w K mg base CX0 (k + 2) fRD dRD ["value"] spRD) (gRD : mg "is_reading" = some (.ref fRD)) (kRD : PySem.W.keepIn K (.ref fRD) = true) (bRD : Binds K dRD ["value"] []) (GNM : FnOk P w K mg base CX0 (k + 1) fNM dNM ["word"] spNM) (gNM : mg "is_numeral" = some (.ref fNM)) (kNM : PySem.W.keepIn K (.ref fNM) = true) (bNM : Binds K dNM ["word"] []) (ml : mg "len" = none) (mi : mg "int" = none) (gLo : ∃ u, mg "LONGEST" = some u ∧ RelV (.int 11) u) : FnOk P w K mg base CX0 (k + 3) f fd ["word"] spRO := by
  refine F.ok scRO (fun vs H Q E h => ?_) (fun cdv A outer s H vs Q E hr h => ?_)
  · obtain ⟨x, rfl, _⟩ := h
    rfl
  · obtain ⟨x, rfl, hl, hq⟩ := h
    refine ⟨_, (pss_cons (ps_if (PW.pt (pw_or (pt_cmpR op_gt (pe_callB call_len_str (by rfl) ml PySem.boot_len (pa_cons (pv 0) pa_nil)) (C8.pe_gc (v := .int 11) (by rfl) gLo) (nomark _)) (pw_or1 (pt_not (pt_val (pe_call (GNM.mono (show k + 1 ≤ k + 2 by omega)) hr (by rfl) gNM kNM bNM .nil pass0 (pa_cons (pv 0) pa_nil))))))) (pss_one (ps_ret pe_non)) pss_nil)
      (pss_cons (ps_set (i := 1) scRO.nd rfl (.inl rfl) (pe_callTy call_int_str (by rfl) mi (by decide +kernel) (pa_cons (pv 0) pa_nil)))
      (pss_one (ps_ret (pe_ifExp (pt_val (pe_call (GRD.mono (show k + 2 ≤ k + 2 by omega)) hr (by rfl) gRD kRD bRD .nil pass0 (pa_cons (pv 1) pa_nil))) (pv 1) pe_non))))), ?_⟩
    refine ⟨.str x, rfl, x, rfl, Nat.le_trans hl (by decide), _, 11, rfl, rfl, _, rfl, ?_⟩
    by_cases c : 11 < x.length
    · rw [decide_eq_true (show (11 : Int) < (x.length : Int) by omega)]
      have e : rdw x = none := by
        unfold NX.rdw
        rw [decide_eq_true c]
        rfl
      rw [e] at hq
      exact iteT hq
    · rw [decide_eq_false (show ¬ (11 : Int) < (x.length : Int) by omega)]
      refine iteF ⟨.str x, rfl, x, rfl, by omega, _, rfl, ?_⟩
      cases hn : isNum x with
      | false =>
        have e : rdw x = none := by
          unfold NX.rdw
          rw [decide_eq_false c, hn]
          rfl
        rw [e] at hq
        exact iteT hq
      | true =>
        obtain ⟨n, en⟩ := NX.num_reads hn (by omega)
        have e : rdw x = if n.natAbs ≤ 1000000000 then some n else none := by
          unfold NX.rdw
          rw [decide_eq_false c, hn, en]
          rfl
        refine iteF ⟨.str x, rfl, x, n, rfl, en, by omega, ?_⟩
        refine ⟨.int n, rfl, n, rfl, _, rfl, ?_⟩
        by_cases b : n.natAbs ≤ 1000000000
        · rw [decide_eq_true b]
          rw [e, if_pos b] at hq
          exact iteT ⟨.int n, rfl, hq⟩
        · rw [decide_eq_false b]
          rw [e, if_neg b] at hq
          exact iteF hq
def spEO : Sp := fun vs H Q _ => ∃ (a : Addr) (ws : List Str), vs = [.ref a] ∧ H a = some (.lst (ws.map V.str)) ∧ ws.length ≤ 3000 ∧ (∀ x ∈ ws, x.length ≤ 1000000) ∧
  (∀ H', Same H H' → entw ws = none → Q .non H') ∧ (∀ H' p e, Same H H' → entw ws = some e → H' p = some (tri e) → Q (.ref p) H')
theorem ok_EO {f : Addr} {fd : FuncData} {fRO : Addr} {dRO : FuncData} {k : Nat} (F : Fun K "entry_of" "entry_of" sEO f fd) (GRO : FnOk P w K mg base CX0 (k + 3) fRO dRO ["word"] spRO) (gRO : mg "reading_of" = some (.ref fRO)) (kRO : PySem.W.keepIn K (.ref fRO) = true) (bRO : Binds K dRO ["word"] []) (mlen : mg "len" = none) (gG : ∃ u, mg "GREATEST" = some u ∧ RelV (.int 1000000) u) : FnOk P w K mg base CX0 (k + 4) f fd ["words"] spEO := by
  refine F.ok scEO (fun vs H Q E h => ?_) (fun cdv A outer s H vs Q E hr h => ?_)
  · obtain ⟨a, ws, rfl, _⟩ := h
    rfl
  · obtain ⟨a, ws, rfl, hA, hl, hw, hn, hs⟩ := h
    refine ⟨_, (pss_cons (ps_setLc (i := 1) (own := [("word", 5)]) (g := gName 5) (tt := tYes) (te := tCall spRO [] E0 (tCons (tVar 5) tNil)) rfl scEO.nd rfl rfl (sw_true rfl rfl rfl (by decide +kernel)) (pi_list (pv 0)) (blkOk_by (own := [("word", 5)]) (N := ["words", "numbers", "low", "high", "amount", "word"]) (sc := defScope sEO) (by decide +kernel)) (fun _ _ _ _ _ => (pg_name (i := 5) scEO.nd rfl (Or.inl rfl) (Or.inr rfl))) (fun _ _ _ _ _ => pts_nil) (fun _ _ _ _ _ => (pe_call GRO hr (by rfl) gRO kRO bRO .nil pass0 (pa_cons (pv 5) pa_nil))))
      (pss_cons (ps_if (PW.pt (pw_or (pt_cmpR op_ne (pe_callB call_len_seq (by rfl) mlen PySem.boot_len (pa_cons (pv 1) pa_nil)) pe_int (nomark _)) (pw_or1 (pt_cmpR op_in_seq pe_non (pv 1) (by rfl))))) (pss_one (ps_ret pe_non)) pss_nil)
      (pss_cons (ps_asg (pv 1) (pg_unl rfl (pgs_cons (pg_name (i := 2) scEO.nd rfl (.inl rfl)) (pgs_cons (pg_name (i := 3) scEO.nd rfl (.inl rfl)) (pgs_cons (pg_name (i := 4) scEO.nd rfl (.inl rfl)) pgs_nil)))))
      (pss_cons (ps_if (PW.pt (pw_or (pt_cmpR op_ge (pv 2) (pv 3) (nomark _)) (pw_or (pt_cmpR op_lt (pv 4) pe_int (nomark _)) (pw_or1 (pt_cmpR op_gt (pv 4) (C8.pe_gc (v := .int 1000000) (by rfl) gG) (nomark _)))))) (pss_one (ps_ret pe_non)) pss_nil)
      (pss_one (ps_ret (pe_tup (pa_cons (pv 2) (pa_cons (pv 3) (pa_cons (pv 4) pa_nil)))))))))), ?_⟩
    refine ⟨.ref a, rfl, a, rfl, ⟨_, SqL.of hA⟩, fun D nD => ?_⟩
    refine lc_list (K := K) (a := a) (xs := ws.map V.str) (fun i Hz => Same H Hz ∧ Hz D = some (.lst (((ws.take i).map rdw).map optV))) ⟨same_new nD, upd_same⟩ (fun i Hz _ z => SqL.of (z.1 _ _ hA)) ?_ ?_
    · rintro i y Hz hy ⟨sz, eD⟩
      obtain ⟨x, hx, rfl⟩ := strs_at hy
      have hi := (List.getElem?_eq_some_iff.mp hx).1
      refine ⟨rfl, iteT (B := True) ⟨.str x, rfl, x, rfl, hw x (List.mem_of_getElem? hx), _, eD, ?_, same_again nD sz, ?_⟩⟩
      · rw [List.length_map, List.length_map, List.length_take]; exact Nat.lt_of_le_of_lt (show _ ≤ 3000 by omega) (by decide)
      · rw [upd_same, List.take_add_one, hx, List.map_append, List.map_append]; rfl
    rintro H1 ⟨s1, eD⟩
    rw [List.length_map, List.take_length] at eD
    unfold entw at hn hs
    generalize ws.map rdw = os at hn hs eD
    refine ⟨.ref D, rfl, D, _, rfl, .inl (SqL.of eD), rfl, _, rfl, ?_⟩
    have el : V.int ((os.map optV).length : Int) = V.int 3 ↔ os.length = 3 := by
      rw [List.length_map]
      constructor
      · intro z; have := V.int.inj z; omega
      · intro z; rw [z]; rfl
    by_cases l3 : os.length = 3
    · rw [decide_eq_true (el.mpr l3)]
      refine iteF ⟨.ref D, rfl, D, _, rfl, .inl (SqL.of eD), rfl, opt_flat _, _, rfl, ?_⟩
      rw [opt_in]
      match os, l3 with
      | [none, _, _], _ => exact iteT (hn _ s1 rfl)
      | [some _, none, _], _ => exact iteT (hn _ s1 rfl)
      | [some _, some _, none], _ => exact iteT (hn _ s1 rfl)
      | [some a, some b, some c], _ =>
        have no : okE a b c = false → Q .non H1 := fun z => hn _ s1 (by show (if okE a b c = true then some (a, b, c) else none) = none; rw [z]; rfl)
        refine iteF ⟨.ref D, rfl, D, _, rfl, SqL.of eD, rfl, .int a, [.int b, .int c], rfl, .int b, [.int c], rfl, .int c, [], rfl, rfl, ?_⟩
        refine ⟨.int a, rfl, .int b, rfl, a, b, rfl, rfl, _, rfl, ?_⟩
        by_cases c1 : b ≤ a
        · rw [decide_eq_true c1]
          exact iteT (no (by unfold okE; rw [decide_eq_true c1]; rfl))
        rw [decide_eq_false c1]
        refine iteF ⟨.int c, rfl, c, 0, rfl, rfl, _, rfl, ?_⟩
        by_cases c2 : c < 0
        · rw [decide_eq_true c2]
          exact iteT (no (by unfold okE; rw [decide_eq_false c1, decide_eq_true c2]; rfl))
        rw [decide_eq_false c2]
        refine iteF ⟨.int c, rfl, c, 1000000, rfl, rfl, _, rfl, ?_⟩
        by_cases c3 : 1000000 < c
        · rw [decide_eq_true c3]
          exact iteT (no (by unfold okE; rw [decide_eq_false c1, decide_eq_false c2, decide_eq_true c3]; rfl))
        rw [decide_eq_false c3]
        refine iteF ⟨.int a, rfl, .int b, rfl, .int c, rfl, by show 3 ≤ sizeLine; decide, fun p np => hs _ p (a, b, c) (s1.trans (same_new np)) ?_ upd_same⟩
        show (if okE a b c = true then some (a, b, c) else none) = some (a, b, c)
        have e : okE a b c = true := by unfold okE; rw [decide_eq_false c1, decide_eq_false c2, decide_eq_false c3]; rfl
        rw [e]
        rfl
    · rw [decide_eq_false (fun z => l3 (el.mp z))]
      refine iteT (hn _ s1 ?_)
      split <;> first | rfl | exact absurd rfl l3
def spPA (C : Addr) : Sp := fun vs H Q _ => ∃ (T : List Ent), vs = [.ref C, .str (NX.txt T)] ∧ (∀ e ∈ T, Val e) ∧ T.length ≤ 200 ∧ ∀ H' x, Same H H' → TabAt H' C x T → Q (.ref x) H'
theorem ok_PA {f : Addr} {fd : FuncData} {fEO : Addr} {dEO : FuncData} {fTI : Addr} {dTI : FuncData} {C : Addr} {k : Nat} (F : Fun K "parse" "Table.parse" sPA f fd) (GEO : FnOk P w K mg base CX0 (k + 4) fEO dEO ["words"] spEO) (gEO : mg "entry_of" = some (.ref fEO)) (kEO : PySem.W.keepIn K (.ref fEO) = true) (bEO : Binds K dEO ["words"] []) (mk : Mk K C fTI) (GTI : FnOk P w K mg base CX0 (k + 1) fTI dTI ["self", "entries"] (spTI K C)) (bTI : Binds K dTI ["self", "entries"] []) : FnOk P w K mg base CX0 (k + 5) f fd ["cls", "text"] (spPA C) := by
  refine F.ok scPA (fun vs H Q E h => ?_) (fun cdv A outer s H vs Q E hr h => ?_)
  · obtain ⟨T, rfl, _⟩ := h
    rfl
  · obtain ⟨T, rfl, va, hl, hq⟩ := h
    refine ⟨_, (pss_cons (ps_if (pt_cmpR op_eq (pv 1) pe_str (nomark _)) (pss_one (ps_ret (pe_makeL (i := 0) mk (GTI.mono (show k + 1 ≤ k + 3 by omega)) hr rfl (.inl rfl) bTI .nil pass0 (pa_cons (pe_lst pa_nil) pa_nil)))) pss_nil)
      (pss_cons (ps_setLc (i := 2) (own := [("row", 3)]) (g := gName 3) (tt := tYes)  rfl scPA.nd rfl rfl (sw_true rfl rfl rfl (by decide +kernel)) (pi_list (pe_split (pv 1) pe_str)) (blkOk_by (own := [("row", 3)]) (N := ["cls", "text", "entries", "row"]) (sc := defScope sPA) (by decide +kernel)) (fun _ _ _ _ _ => (pg_name (i := 3) scPA.nd rfl (Or.inl rfl) (Or.inr rfl))) (fun _ _ _ _ _ => pts_nil) (fun _ _ _ _ _ => (pe_call (GEO.mono (show k + 4 ≤ k + 4 by omega)) hr (by rfl) gEO kEO bEO .nil pass0 (pa_cons (pe_split (pv 3) pe_str) pa_nil))))
      (pss_cons (ps_if (pt_cmpR (op_inD (Nat.lt_of_le_of_lt (Nat.add_le_add_left (by decide) _) (XT.hu_of hr))) pe_non (pv 2) (by rfl)) pss_never pss_nil)
      (pss_one (ps_ret (pe_makeL (i := 0) mk (GTI.mono (show k + 1 ≤ k + 3 by omega)) hr rfl (.inl rfl) bTI .nil pass0 (pa_cons (pv 2) pa_nil))))))), ?_⟩
    refine ⟨.str (NX.txt T), rfl, rfl, _, rfl, ?_⟩
    by_cases hT : T = []
    · subst hT
      rw [decide_eq_true (show V.str (NX.txt []) = V.str "" by rw [NX.txt_nil])]
      refine iteT ⟨rfl, Nat.zero_le _, fun p np => ?_⟩
      exact mk_tab (T := []) (.inl (SqL.of upd_same)) trivial (by decide) fun H' x s _ tab => hq H' x ((same_new np).trans s) tab
    · rw [decide_eq_false (show ¬ V.str (NX.txt T) = V.str "" from fun z => NX.txt_ne hT (V.str.inj z))]
      have ll := txt_len va hl
      refine iteF ⟨.str (NX.txt T), rfl, ⟨_, rfl⟩, NX.txt T, "\n", rfl, rfl, by decide +kernel, Nat.le_trans (Nat.add_le_add_right ll 2) (by decide), fun S nS => ?_⟩
      rw [NX.split_txt hT]
      have sS := same_new (o := .lst ((T.map NX.row).map V.str)) nS
      have eS := upd_same (H := H) (a := S) (o := .lst ((T.map NX.row).map V.str))
      generalize upd H S (.lst ((T.map NX.row).map V.str)) = H0 at sS eS ⊢
      refine ⟨S, rfl, ⟨_, SqL.of eS⟩, fun D nD => ?_⟩
      refine lc_list (K := K) (a := S) (xs := (T.map NX.row).map V.str) (fun i Hz => Same H0 Hz ∧ ∃ acc, Hz D = some (.lst acc) ∧ TripsAt Hz acc (T.take i)) ⟨same_new nD, [], upd_same, trivial⟩ (fun i Hz _ z => SqL.of (z.1 _ _ eS)) ?_ ?_
      · rintro i y Hz hy ⟨sz, acc, eD, tr⟩
        obtain ⟨x, hx, rfl⟩ := strs_at hy
        rw [List.getElem?_map] at hx
        obtain ⟨e, he, rfl⟩ := Option.map_eq_some_iff.mp hx
        have hi := (List.getElem?_eq_some_iff.mp he).1
        have ve := va e (List.mem_of_getElem? he)
        refine ⟨rfl, iteT (B := True) ⟨.str (NX.row e), rfl, ⟨_, rfl⟩, NX.row e, " ", rfl, rfl, by decide +kernel, Nat.le_trans (Nat.add_le_add_right (row_len ve) 2) (by decide), fun W nW => ?_⟩⟩
        rw [NX.split_row]
        have sW := same_new (o := .lst ((wds e).map V.str)) nW
        have eW := upd_same (H := Hz) (a := W) (o := .lst ((wds e).map V.str))
        generalize upd Hz W (.lst ((wds e).map V.str)) = H2 at sW eW ⊢
        refine ⟨W, wds e, rfl, eW, by show 3 ≤ 3000; decide, fun x hx => wds_len ve hx, fun H' s z => (by rw [NX.entw_of ve] at z; cases z), fun H' p e2 s z hp => ?_⟩
        rw [NX.entw_of ve] at z
        cases z
        have s3 := (sW.trans s)
        have al := tr.length
        rw [List.length_take] at al
        refine ⟨acc, s3 _ _ eD, Nat.lt_of_le_of_lt (show acc.length ≤ 3000 by omega) (by decide), same_again nD (sz.trans s3), acc ++ [.ref p], upd_same, ?_⟩
        rw [List.take_add_one, he]
        exact ((tr.same s3).app (trips_one hp)).but (fun b o n e => by rw [upd_ne n]; exact e) (s3 _ _ eD)
      rintro H1 ⟨s1, acc, eD, tr⟩
      rw [List.length_map, List.length_map, List.take_length] at tr
      refine ⟨.ref D, rfl, .none, dTrips T, .non, .lst (SqL.of eD) (dp_trips tr), by decide +kernel, shaped_trips T, _, rfl, ?_⟩
      rw [none_tr]
      refine iteF ⟨rfl, .ref D, rfl, ?_⟩
      exact mk_tab (.inl (SqL.of eD)) tr (by omega) fun H' x s _ tab => hq H' x (sS.trans (s1.trans s)) tab
def spEQ (C : Addr) : Sp := fun vs H Q _ => ∃ (x y : Addr) (T U : List Ent), vs = [.ref x, .ref y] ∧ TabAt H C x T ∧ TabAt H C y U ∧ T.length ≤ 200 ∧ U.length ≤ 200 ∧ Q (.bl (decide (T = U))) H
def spEQo (K : PySem.W.Frag) (C : Addr) : Sp := fun vs H Q _ => ∃ (x : Addr) (y : V) (t : Value), vs = [.ref x, y] ∧ TyX K H y t ∧ PySem.W.kitOne K t (.ref C) = some false ∧ Q (.bl false) H
def spEQa (K : PySem.W.Frag) (C : Addr) : Sp := fun vs H Q E => spEQ C vs H Q E ∨ spEQo K C vs H Q E
theorem ok_EQ {f : Addr} {fd : FuncData} {C : Addr} {k : Nat} (F : Fun K "__eq__" "Table.__eq__" sEQ f fd) (T : Tbl K C) (S : C8.InsC K C) (gC : mg "Table" = some (.ref C)) (mi : mg "isinstance" = none) : FnOk P w K mg base CX0 (k + 1) f fd ["self", "other"] (spEQ C) := by
  refine F.ok scEQ (fun vs H Q E h => ?_) (fun cdv A outer s H vs Q E hr h => ?_)
  · obtain ⟨x, y, T, U, rfl, _⟩ := h
    rfl
  · obtain ⟨x, y, T', U, rfl, ⟨dx, t1, ys, h1, h2, h3⟩, ⟨dy, u1, zs, g1, g2, g3⟩, _, _, hq⟩ := h
    refine ⟨_, pss_one (ps_ret (pe_and (pe_callB (C8.call_isC S) (by rfl) mi (by decide +kernel) (pa_cons (pv 1) (pa_cons (pe_glob (v := .ref C) (by rfl) gC rfl) pa_nil)))
      (pe_one (pe_cmpR (op_eqD hr.units) (pe_fld (pv 0) rfl) (pe_fld (pv 1) rfl) (nomark _))))), ?_⟩
    have e1 := ev_tr T' U
    refine ⟨.ref y, rfl, y, dy, _, rfl, g1, true, rfl, iteT ?_⟩
    refine ⟨.ref x, rfl, x, C, dx, _, .ref t1, rfl, h1, T.cl, T.nE, rfl, .ref y, rfl, y, C, dy, _, .ref u1, rfl, g1, T.cl, T.nE, rfl, .tuple (dTrips T'), .tuple (dTrips U), .tup (SqT.of h2) (dp_trips h3), .tup (SqT.of g2) (dp_trips g3), shaped_tt _, shaped_tt _, ?_⟩
    rw [show PyData.eqv (.tuple (dTrips T')) (.tuple (dTrips U)) = decide (T' = U) from by rw [← e1]; rfl]
    exact hq
theorem ok_EQo {f : Addr} {fd : FuncData} {C : Addr} {k : Nat} (F : Fun K "__eq__" "Table.__eq__" sEQ f fd) (gC : mg "Table" = some (.ref C)) (mi : mg "isinstance" = none) : FnOk P w K mg base CX0 (k + 1) f fd ["self", "other"] (spEQo K C) := by
  refine F.ok scEQ (fun vs H Q E h => ?_) (fun cdv A outer s H vs Q E hr h => ?_)
  · obtain ⟨x, y, t, rfl, _⟩ := h
    rfl
  · obtain ⟨x, y, t, rfl, ty, kt, hq⟩ := h
    refine ⟨_, pss_one (ps_ret (pe_and (pe_callB call_isi (by rfl) mi (by decide +kernel) (pa_cons (pv 1) (pa_cons (pe_glob (v := .ref C) (by rfl) gC rfl) pa_nil)))
      (pe_one (pe_cmpR (op_eqD hr.units) (pe_fld (pv 0) rfl) (pe_fld (pv 1) rfl) (nomark _))))), ?_⟩
    exact ⟨y, rfl, y, .ref C, t, .ref C, false, rfl, .own C, ty, kt, false, rfl, iteF hq⟩
theorem ok_EQa {f : Addr} {fd : FuncData} {C : Addr} {k : Nat} (F : Fun K "__eq__" "Table.__eq__" sEQ f fd) (T : Tbl K C) (S : C8.InsC K C) (gC : mg "Table" = some (.ref C)) (mi : mg "isinstance" = none) : FnOk P w K mg base CX0 (k + 1) f fd ["self", "other"] (spEQa K C) := both (ok_EQ F T S gC mi) (ok_EQo F gC mi)
end
end Z5K

/-! lists or tuples of ints: max, min, index, slices; len of a set -/
namespace GU
open PySem PySem.Spec PyProof.Rows L2 KA PH
section
variable {prog : Program} {w : World} {A : Around} {E : Value → Shared → Prop} {s : Shared} {l : Addr} {xs : Array (Int × Tok)}
theorem iter_intTup {Q : Value → Shared → Prop} (hl : s.heap.IsTuple l (intItems xs))
    (h : ∀ s₂ : Shared, s₂ = { s with heap := s.heap.push { cls := .type "tuple_iterator", data := .fields #[.ref l, .int 0 0] } } →
      (s₂.heap.IsTupleIter s.heap.objs.size l 0 ∧ s₂.heap.IsTuple l (intItems xs)) → (∀ b ∈ [s.heap.objs.size, l], b < s₂.heap.objs.size) → l ≠ s.heap.objs.size → Q (.ref s.heap.objs.size) s₂) :
    wpAny (model prog w) A (pyIter (.ref l)) Q E s := by
  have hlt : l < s.heap.objs.size := by obtain ⟨_, e, _⟩ := hl; exact Heap.lt_size e
  refine wpAny_pyIter_tuple hl (h _ rfl ⟨⟨_, Heap.get?_push_size _ rfl, rfl, rfl⟩, hl.push _⟩ (fun b hb => ?_) (Nat.ne_of_lt hlt))
  show b < (s.heap.push _).objs.size
  rw [Heap.size_push]
  rcases List.mem_cons.mp hb with rfl | hb
  · exact Nat.lt_succ_self _
  · rcases List.mem_cons.mp hb with rfl | hb
    · exact Nat.lt_succ_of_lt hlt
    · cases hb
theorem old_keptT {h' : Heap} (hk : ∀ b o, b ∉ [s.heap.objs.size] → (s.heap.push { cls := .type "tuple_iterator", data := .fields #[.ref l, .int 0 0] }).get? b = some o → h'.get? b = some o) :
    ∀ b o, s.heap.get? b = some o → h'.get? b = some o := fun b o e => by
  refine hk b o (fun hm => ?_) (Heap.get?_push_of_some _ e)
  rcases List.mem_cons.mp hm with e1 | hm
  · exact absurd (e1 ▸ Heap.lt_size e) (Nat.lt_irrefl _)
  · cases hm
theorem max_intTup {Q : Value → Shared → Prop} (hh : A.handled = none) (hl : s.heap.IsTuple l (intItems xs)) (hne : 0 < xs.size)
    (h : ∀ v h' tk, (intItems xs)[argBest (fun i j => decide (numAt xs i > numAt xs j)) (xs.size - 1)]? = some v → (∀ b o, s.heap.get? b = some o → h'.get? b = some o) → Q v { s with heap := h', toks := tk }) :
    wpAny (model prog w) A (call (.builtin "max") [.ref l]) Q E s := by
  refine call_max_walk (iter_intTup hl fun s₂ e st hfp hlI => ?_)
  subst e
  refine ⟨_, _, _, _, _, _, _, rfl, Walks.tuple (A := A.in1) hh _ l hlI (intItems xs), st, hfp, by simpa [intItems] using hne, CmpOf.ints_gt (numAt xs) (fun _ _ => intItems_at), fun v h' tk hP hk => ?_⟩
  exact h v h' tk (by simpa [intItems] using hP) (old_keptT hk)
theorem min_intTup {Q : Value → Shared → Prop} (hh : A.handled = none) (hl : s.heap.IsTuple l (intItems xs)) (hne : 0 < xs.size)
    (h : ∀ v h' tk, (intItems xs)[argBest (fun i j => decide (numAt xs i < numAt xs j)) (xs.size - 1)]? = some v → (∀ b o, s.heap.get? b = some o → h'.get? b = some o) → Q v { s with heap := h', toks := tk }) :
    wpAny (model prog w) A (call (.builtin "min") [.ref l]) Q E s := by
  refine call_min_walk (iter_intTup hl fun s₂ e st hfp hlI => ?_)
  subst e
  refine ⟨_, _, _, _, _, _, _, rfl, Walks.tuple (A := A.in1) hh _ l hlI (intItems xs), st, hfp, by simpa [intItems] using hne, CmpOf.ints_lt (numAt xs) (fun _ _ => intItems_at), fun v h' tk hP hk => ?_⟩
  exact h v h' tk (by simpa [intItems] using hP) (old_keptT hk)
end
section
variable {prog : Program} {w : World} {A : Around} {E : Value → Shared → Prop} {s : Shared} {l : Addr} {its : List Value} {ns : List Int} {Q : Value → Shared → Prop}
theorem max_rawT (hh : A.handled = none) (hl : IsTup s.heap l its.toArray) (hi : IntsAre its ns) (hne : 0 < ns.length)
    (h : ∀ h' tk M t', (∀ b o, s.heap.get? b = some o → h'.get? b = some o) → M ∈ ns → (∀ a, a ∈ ns → a ≤ M) → Q (.int M t') { s with heap := h', toks := tk }) : wpAny (model prog w) A (call (.builtin "max") [.ref l]) Q E s := by
  obtain ⟨xs, e⟩ := hi.allInts.items
  have hn : numsOf (intItems xs).toList = ns := by rw [← e]; exact hi.numsOf
  rw [nums_intItems] at hn
  subst hn
  rw [e] at hl
  have hsz : 0 < xs.size := by simpa using hne
  have hl2 : s.heap.IsTuple l (intItems xs) := by
    obtain ⟨o, ho, hc, n, hd⟩ := hl
    exact ⟨o, ho, hc, n, hd⟩
  refine max_intTup hh hl2 hsz fun v h' tk hv hk => ?_
  obtain ⟨t, rfl⟩ := intItems_at hv
  obtain ⟨h1, h2⟩ := argBest_gt (numAt xs) (xs.size - 1)
  refine h h' tk _ t hk ?_ fun a ha => ?_
  · rw [numAt_eq]; exact PySem.getD_mem (by rw [List.length_map, Array.length_toList]; omega)
  · obtain ⟨j, hj, rfl⟩ := mem_getD ha
    rw [List.length_map, Array.length_toList] at hj
    rw [← numAt_eq]; exact h2 j (by omega)
theorem min_rawT (hh : A.handled = none) (hl : IsTup s.heap l its.toArray) (hi : IntsAre its ns) (hne : 0 < ns.length)
    (h : ∀ h' tk M t', (∀ b o, s.heap.get? b = some o → h'.get? b = some o) → M ∈ ns → (∀ a, a ∈ ns → M ≤ a) → Q (.int M t') { s with heap := h', toks := tk }) : wpAny (model prog w) A (call (.builtin "min") [.ref l]) Q E s := by
  obtain ⟨xs, e⟩ := hi.allInts.items
  have hn : numsOf (intItems xs).toList = ns := by rw [← e]; exact hi.numsOf
  rw [nums_intItems] at hn
  subst hn
  rw [e] at hl
  have hsz : 0 < xs.size := by simpa using hne
  have hl2 : s.heap.IsTuple l (intItems xs) := by
    obtain ⟨o, ho, hc, n, hd⟩ := hl
    exact ⟨o, ho, hc, n, hd⟩
  refine min_intTup hh hl2 hsz fun v h' tk hv hk => ?_
  obtain ⟨t, rfl⟩ := intItems_at hv
  obtain ⟨h1, h2⟩ := argBest_lt (numAt xs) (xs.size - 1)
  refine h h' tk _ t hk ?_ fun a ha => ?_
  · rw [numAt_eq]; exact PySem.getD_mem (by rw [List.length_map, Array.length_toList]; omega)
  · obtain ⟨j, hj, rfl⟩ := mem_getD ha
    rw [List.length_map, Array.length_toList] at hj
    rw [← numAt_eq]; exact h2 j (by omega)
end
section
variable {X : Cx}
/-- one of two readings -/
theorem pe_either {e : Expr} {t u : TE} (h : PE X e t) (g : PE X e u) : PE X e (fun σ H Q => t σ H Q ∨ u σ H Q) :=
  ⟨fun pins s σ H Q I q => q.elim (h.run pins s σ H Q I) (g.run pins s σ H Q I)⟩
/-- max(xs), min(xs) of a list or a tuple of ints -/
def rMaxS (K : PySem.W.Frag) : List V → Hp → VK → Prop := fun vs H Q => ∃ (a : Addr) (ns : List Int), vs = [V.ref a] ∧ Sq K H a (ns.map V.int) ∧ 0 < ns.length ∧ ∀ m, m ∈ ns → (∀ y, y ∈ ns → y ≤ m) → Q (.int m) H
def rMinS (K : PySem.W.Frag) : List V → Hp → VK → Prop := fun vs H Q => ∃ (a : Addr) (ns : List Int), vs = [V.ref a] ∧ Sq K H a (ns.map V.int) ∧ 0 < ns.length ∧ ∀ m, m ∈ ns → (∀ y, y ∈ ns → m ≤ y) → Q (.int m) H
theorem cr_maxS (hc : X.calm = true) : CallR X (.builtin "max") (rMaxS X.K) := by
  intro pins s σ H vs us Q I r h
  obtain ⟨a, ns, rfl, hs | hs, hne, q⟩ := h
  · exact cr_max hc pins s σ H _ us Q I r ⟨a, ns, rfl, hs, hne, q⟩
  · obtain ⟨its, rv, hl, _⟩ := I.tuple hs
    rw [Vals.ref1 r]
    exact max_rawT (I.ok.hd hc) hl rv.ints hne fun h' tk m t' hk h1 h2 => ⟨.int _, H, I.kept hk, ⟨_, rfl⟩, q m h1 h2⟩
theorem cr_minS (hc : X.calm = true) : CallR X (.builtin "min") (rMinS X.K) := by
  intro pins s σ H vs us Q I r h
  obtain ⟨a, ns, rfl, hs | hs, hne, q⟩ := h
  · exact cr_min hc pins s σ H _ us Q I r ⟨a, ns, rfl, hs, hne, q⟩
  · obtain ⟨its, rv, hl, _⟩ := I.tuple hs
    rw [Vals.ref1 r]
    exact min_rawT (I.ok.hd hc) hl rv.ints hne fun h' tk m t' hk h1 h2 => ⟨.int _, H, I.kept hk, ⟨_, rfl⟩, q m h1 h2⟩
/-- xs[lo:hi] of a list or a tuple -/
def rSlS (K : PySem.W.Frag) : V → Option Int → Option Int → Hp → VK → Prop := fun x lo hi H Q => ∃ a xs, x = .ref a ∧ Sq K H a xs ∧ ∀ H' p, Same H H' → Sq K H' p (cutV xs lo hi) → Q (.ref p) H'
theorem cut_whole {xs : List V} {lo hi : Option Int} (h : HT.sIx xs.length 0 lo = 0 ∧ HT.sIx xs.length xs.length hi = xs.length) : cutV xs lo hi = xs := by
  unfold cutV
  rw [h.1, h.2, List.drop_zero, Nat.sub_zero, List.take_length]
theorem sl_S : SlR X (rSlS X.K) := by
  intro pins s σ H x v vl vu lo hi sl Q I rx hs pl pu h
  obtain ⟨a, xs, rfl, hS | hS, q⟩ := h
  · exact sl_list pins s σ H _ v vl vu lo hi sl Q I rx hs pl pu ⟨a, xs, rfl, hS, fun p np => q _ p (same_new np) (.inl (SqL.of upd_same))⟩
  · exact sl_tupA pins s σ H _ v vl vu lo hi sl Q I rx hs pl pu ⟨a, xs, rfl, hS, fun w => q H a (Same.refl H) (by rw [cut_whole w]; exact .inr hS), fun _ p np => q _ p (same_new np) (.inr (SqT.of upd_same))⟩
/-- xs.index(y) of ints -/
def rIdxL (K : PySem.W.Frag) : V → List V → Hp → VK → Prop := fun x xs H Q => ∃ (a : Addr) (ns : List Int) (y : Int) (j : Nat), x = V.ref a ∧ xs = [V.int y] ∧ SqL K H a (ns.map V.int) ∧ ns[j]? = some y ∧ (∀ m z, m < j → ns[m]? = some z → z ≠ y) ∧ Q (.int (j : Nat)) H
def rIdxT (K : PySem.W.Frag) : V → List V → Hp → VK → Prop := fun x xs H Q => ∃ (a : Addr) (ns : List Int) (y : Int) (j : Nat), x = V.ref a ∧ xs = [V.int y] ∧ SqT K H a (ns.map V.int) ∧ ns[j]? = some y ∧ (∀ m z, m < j → ns[m]? = some z → z ≠ y) ∧ Q (.int (j : Nat)) H
theorem flat_ints (ns : List Int) : (ns.map V.int).all flatV = true := by
  rw [List.all_map]
  exact List.all_eq_true.mpr fun _ _ => rfl
theorem mt_idxL : MtR X "list.index" (rIdxL X.K) := by
  intro pins s σ H x xs v us Q I rx rxs h
  obtain ⟨a, ns, y, j, rfl, rfl, hs, hy, hno, q⟩ := h
  refine mt_index pins s σ H _ _ v us Q I rx rxs ⟨a, ns.map V.int, .int y, j, .int y, rfl, rfl, hs, rfl, flat_ints ns, at_int hy, beq_self_eq_true y, fun m z hm hz => ?_, q⟩
  obtain ⟨r, hr, rfl⟩ := int_at hz
  exact beq_eq_false_iff_ne.mpr (hno m r hm hr)
theorem mt_idxT : MtR X "tuple.index" (rIdxT X.K) := by
  intro pins s σ H x xs v us Q I rx rs h
  obtain ⟨p, ys, z, j, rfl, rfl, hq, hy, hno, q⟩ := h
  cases rx
  obtain ⟨u, rfl, t, rfl⟩ := vals1 rs
  obtain ⟨its, r, pl, hz⟩ := I.tuple hq
  obtain ⟨⟨cls, dd, dt, sl⟩, ho, hc, n, hd⟩ := pl
  simp only at hc hd
  subst hc
  subst hd
  have hl : its.toArray.size = ys.length := by rw [List.size_toArray, ← r.length, List.length_map]
  have hj : j < its.toArray.size := by rw [hl]; exact (List.getElem?_eq_some_iff.mp hy).1
  have at' : ∀ (m : Nat) (hm : m < its.toArray.size), ∃ y t', ys[m]? = some y ∧ its.toArray[m] = Value.int y t' := fun m hm => by
    have hm' : m < ys.length := by rw [← hl]; exact hm
    obtain ⟨w, hw, t', hw'⟩ := r.get (i := m) (x := .int ys[m]) (by simp [hm'])
    refine ⟨ys[m], t', List.getElem?_eq_getElem hm', ?_⟩
    have e := (List.getElem?_eq_some_iff.mp hw).2
    rw [← hw', ← e]
    simp
  refine call_meets PySem.F.slot_tuple_index ⟨_, ho, rfl⟩ PySem.F.entry_tuple_index (PySem.F.args_tuple_index_2 _ _) (TI.tuple_indexAt p its.toArray n dd sl (.int z t) (eqU (.int z)) j hj ?_ ?_)
    ⟨ho, fun w hw => mem_eqAt (x := .int z) ⟨t, rfl⟩ rfl r (flat_ints ys) w (by simpa using hw), ⟨.int (j : Nat), H, I.tok _, ⟨_, rfl⟩, q⟩⟩
  · obtain ⟨y, t', h1, h2⟩ := at' j hj
    rw [hy] at h1
    cases h1
    rw [h2]
    show (z == z) = true
    exact beq_self_eq_true z
  · intro m hm hmj
    obtain ⟨y, t', h1, h2⟩ := at' m hm
    rw [h2]
    show (y == z) = false
    exact beq_eq_false_iff_ne.mpr (hno m y hmj h1)
/-- len(s) of a set of ints -/
def rLenSet (w : World) : List V → Hp → VK → Prop := fun vs H Q => ∃ (a : Addr) (S : Int → Bool) (n : Nat), vs = [V.ref a] ∧ H a = some (SetO w a S n) ∧ n < 2 ^ 40 ∧ ((∃ ks : List Int, ks.Nodup ∧ ks.length = n ∧ ∀ k, k ∈ ks ↔ S k = true) → Q (.int (n : Nat)) H)
theorem cr_lenSet : CallR X (.builtin "len") (rLenSet X.w) := by
  intro pins s σ H vs us Q I r h
  obtain ⟨a, S, n, rfl, ha, hn, q⟩ := h
  rw [Vals.ref1 r]
  obtain ⟨o, es, ep, t, ho, hex, hd, h1, h2, h3, h4, hf, hsz, _⟩ := setO_get I ha
  refine call_len_set ho hex hd hf (by omega) ⟨.int (n : Nat), H, I.tok _, ⟨_, by rw [hsz]⟩, q ⟨es.toList.map keyOf, h2, by rw [List.length_map, Array.length_toList, hsz], fun k => (h3 k).symm⟩⟩
end
end GU

set_option pp.maxSteps 900
/-! the law's own amount and wear -/
namespace H8V
open PySem PySem.Spec PyProof.Rows L2 KA KD PH PM RM K52b XU
open XT hiding pairs_get
abbrev sAm : Stmt := topS 21
abbrev sWe : Stmt := topS 22
theorem scAm : FnScope ["entries", "low", "high", "found", "start", "end", "amount"] ["entries", "low", "high"] (defScope sAm) := ⟨rfl, rfl, rfl, by decide +kernel, rfl, by decide +kernel, by decide +kernel⟩
theorem scWe : FnScope ["entries", "ranges", "low", "high"] ["entries", "ranges"] (defScope sWe) := ⟨rfl, rfl, rfl, by decide +kernel, rfl, by decide +kernel, by decide +kernel⟩
section
variable {P : Program} {w : World} {K : PySem.W.Frag} {mg : Str → Option Value} {base : Heap}
def spAm (K : PySem.W.Frag) : Sp := fun vs H Q _ => ∃ (a : Addr) (xs : List V) (es : List Ent) (lo hi : Int), vs = [.ref a, .int lo, .int hi] ∧ SqL K H a xs ∧ TripsAt H xs es ∧ Good es ∧ Q (.int (amt es lo hi)) H
theorem ok_am {f : Addr} {fd : FuncData} {k : Nat} (F : Fun K "_law_amount" "_law_amount" sAm f fd) : FnOk P w K mg base CX0 (k + 1) f fd ["entries", "low", "high"] (spAm K) := by
  refine F.ok scAm (fun vs H Q E h => ?_) (fun cdv A outer s H vs Q E hr h => ?_)
  · obtain ⟨a, xs, es, lo, hi, rfl, _⟩ := h
    rfl
  · obtain ⟨a, xs, es, lo, hi, rfl, hS, tr, g, hq⟩ := h
    refine ⟨_, (pss_cons (ps_set (i := 3) scAm.nd rfl (.inl rfl) pe_int)
      (pss_cons (ps_for PassesOwn.never rfl (pi_list (pv 0)) (pg_tup rfl (pgs_cons (pg_name (i := 4) scAm.nd rfl (.inl rfl)) (pgs_cons (pg_name (i := 5) scAm.nd rfl (.inl rfl)) (pgs_cons (pg_name (i := 6) scAm.nd rfl (.inl rfl)) pgs_nil))))
      (pss_one (ps_if (PW.pt (pw_and (pt_cmpR op_le (pv 1) (pv 4) (nomark _)) (pw_and (pt_cmpR op_le (pv 5) (pv 2) (nomark _)) (pw_and1 (pt_cmpR op_gt (pv 6) (pv 3) (nomark _)))))) (pss_one (ps_set (i := 3) scAm.nd rfl (.inl rfl) (pv 6))) pss_nil)))
      (pss_one (ps_ret (pv 3))))), ?_⟩
    have ll := tr.length
    refine ⟨.ref a, rfl, a, rfl, ⟨_, hS⟩, for_list (K := K) (a := a) (xs := xs) (fun i σ Hx => Hx = H ∧ ∃ r4 r5 r6 : Option V, σ = [some (.ref a), some (.int lo), some (.int hi), some (.int (amt (es.take i) lo hi)), r4, r5, r6]) ⟨rfl, _, _, _, rfl⟩ (fun i σ Hx _ g => by rw [g.1]; exact hS) ?_ ?_⟩
    · rintro i v σ Hx hv ⟨rfl, r4, r5, r6, rfl⟩
      obtain ⟨p, e, rfl, ee, hp⟩ := tr.get hv
      have ge := g e (List.mem_of_getElem? ee)
      have gt : Good (es.take i) := fun x hx => g x (List.mem_of_mem_take hx)
      have st : amt (es.take (i + 1)) lo hi = if (decide (lo ≤ e.1) && decide (e.2.1 ≤ hi)) = true then (if e.2.2 > amt (es.take i) lo hi then e.2.2 else amt (es.take i) lo hi) else amt (es.take i) lo hi := by
        rw [List.take_add_one, ee]
        exact amt_app gt ge lo hi
      refine ⟨p, _, rfl, SqT.of hp, rfl, .int e.1, [.int e.2.1, .int e.2.2], rfl, .int e.2.1, [.int e.2.2], rfl, .int e.2.2, [], rfl, rfl, ?_⟩
      refine ⟨.int lo, rfl, .int e.1, rfl, lo, e.1, rfl, rfl, _, rfl, ?_⟩
      by_cases c1 : lo ≤ e.1
      · rw [decide_eq_true c1]
        refine iteT ⟨.int e.2.1, rfl, .int hi, rfl, e.2.1, hi, rfl, rfl, _, rfl, ?_⟩
        by_cases c2 : e.2.1 ≤ hi
        · rw [decide_eq_true c2]
          rw [decide_eq_true c1, decide_eq_true c2, Bool.and_self, if_pos rfl] at st
          refine iteT ⟨.int e.2.2, rfl, .int (amt (es.take i) lo hi), rfl, e.2.2, amt (es.take i) lo hi, rfl, rfl, _, rfl, ?_⟩
          by_cases c3 : e.2.2 > amt (es.take i) lo hi
          · rw [if_pos c3] at st
            rw [decide_eq_true (show amt (es.take i) lo hi < e.2.2 from c3)]
            exact iteT ⟨.int e.2.2, rfl, rfl, _, _, _, by rw [st]; rfl⟩
          · rw [if_neg c3] at st
            rw [decide_eq_false (show ¬ amt (es.take i) lo hi < e.2.2 from c3)]
            exact iteF ⟨rfl, _, _, _, by rw [st]; rfl⟩
        · rw [decide_eq_false c2]
          rw [decide_eq_false c2, Bool.and_false, if_neg (by decide)] at st
          exact iteF (iteF ⟨rfl, _, _, _, by rw [st]; rfl⟩)
      · rw [decide_eq_false c1]
        rw [decide_eq_false c1, Bool.false_and, if_neg (by decide)] at st
        exact iteF (iteF ⟨rfl, _, _, _, by rw [st]; rfl⟩)
    rintro σ Hx ⟨rfl, r4, r5, r6, rfl⟩
    rw [ll, List.take_length]
    exact ⟨.int (amt es lo hi), rfl, hq⟩
def spWe (K : PySem.W.Frag) : Sp := fun vs H Q _ => ∃ (e a : Addr) (xs ys : List V) (es : List Ent) (rs : List (Int × Int)), vs = [.ref e, .ref a] ∧ SqL K H e xs ∧ TripsAt H xs es ∧ Good es ∧ Sq K H a ys ∧ PairsAt H ys rs ∧ rs.length ≤ 2000 ∧ ∀ H', Same H H' → Q (.int (wear es rs)) H'
theorem ok_we {f fAm : Addr} {fd dAm : FuncData} {k : Nat} (F : Fun K "_law_wear" "_law_wear" sWe f fd) (GAm : FnOk P w K mg base CX0 k fAm dAm ["entries", "low", "high"] (spAm K)) (gAm : mg "_law_amount" = some (.ref fAm)) (kAm : PySem.W.keepIn K (.ref fAm) = true) (bAm : Binds K dAm ["entries", "low", "high"] []) (msu : mg "sum" = none) : FnOk P w K mg base CX0 (k + 1) f fd ["entries", "ranges"] (spWe K) := by
  refine F.ok scWe (fun vs H Q E h => ?_) (fun cdv A outer s H vs Q E hr h => ?_)
  · obtain ⟨e, a, xs, ys, es, rs, rfl, _⟩ := h
    rfl
  · obtain ⟨e, a, xs, ys, es, rs, rfl, hE, tr, g, hS, pa, lr, hq⟩ := h
    refine ⟨_, (pss_one (ps_ret (pe_callB (cr_sum rfl) (by rfl) msu (by decide +kernel) (pa_cons (pe_lc (own := [("low", 2), ("high", 3)]) (g := gTup K 2 (gCons (gName 2) (gCons (gName 3) gNil))) (tt := tYes) (te := tCall (spAm K) [] E0 (tCons (tVar 0) (tCons (tVar 2) (tCons (tVar 3) tNil)))) rfl scWe.nd (GB.pi_both (pv 1)) (blkOk_by (own := [("low", 2), ("high", 3)]) (N := ["entries", "ranges", "low", "high"]) (sc := defScope sWe) (by decide +kernel)) (fun _ _ _ _ _ => (pg_tup rfl (pgs_cons (pg_name (i := 2) scWe.nd rfl (Or.inl rfl) (Or.inr rfl)) (pgs_cons (pg_name (i := 3) scWe.nd rfl (Or.inl rfl) (Or.inr rfl)) pgs_nil)))) (fun _ _ _ _ _ => pts_nil) (fun _ _ _ _ _ => (pe_call GAm hr (by rfl) gAm kAm bAm .nil pass0 (pa_cons (pv 0) (pa_cons (pv 2) (pa_cons (pv 3) pa_nil)))))) pa_nil)))), ?_⟩
    have ll := pa.length
    rcases hS with hS | hS
    · refine ⟨.ref a, rfl, a, rfl, .inl ⟨⟨_, hS⟩, fun D nD => ?_⟩⟩
      refine lc_list (K := K) (a := a) (xs := ys) (fun i Hz => Same H Hz ∧ Hz D = some (.lst (((rs.take i).map fun r => amt es r.1 r.2).map V.int))) ⟨same_new nD, upd_same⟩ (fun i Hz _ z => z.1.seq hS) ?_ ?_
      · rintro i y Hz hy ⟨sz, eD⟩
        obtain ⟨p, r, rfl, er, hp⟩ := XT.pairs_get pa hy
        refine ⟨p, _, rfl, SqT.of (sz _ _ hp), rfl, .int r.1, [.int r.2], rfl, .int r.2, [], rfl, rfl, rfl, iteT (B := True) ?_⟩
        refine ⟨.ref e, rfl, .int r.1, rfl, .int r.2, rfl, e, xs, es, r.1, r.2, rfl, sz.seq hE, tr.same sz, g, ?_⟩
        refine ⟨_, eD, ?_, same_again nD sz, ?_⟩
        · rw [List.length_map, List.length_map, List.length_take]; exact Nat.lt_of_le_of_lt (show _ ≤ 3000 by omega) (by decide)
        · rw [upd_same, List.take_add_one, er, List.map_append, List.map_append]; rfl
      rintro H1 ⟨s1, eD⟩
      rw [ll, List.take_length] at eD
      exact ⟨D, _, rfl, SqL.of eD, hq _ s1⟩
    · refine ⟨.ref a, rfl, a, rfl, .inr ⟨⟨_, hS⟩, fun D nD => ?_⟩⟩
      refine lc_tup (K := K) (a := a) (xs := ys) (fun i Hz => Same H Hz ∧ Hz D = some (.lst (((rs.take i).map fun r => amt es r.1 r.2).map V.int))) ⟨same_new nD, upd_same⟩ (fun i Hz _ z => SqT_same z.1 hS) ?_ ?_
      · rintro i y Hz hy ⟨sz, eD⟩
        obtain ⟨p, r, rfl, er, hp⟩ := XT.pairs_get pa hy
        refine ⟨p, _, rfl, SqT.of (sz _ _ hp), rfl, .int r.1, [.int r.2], rfl, .int r.2, [], rfl, rfl, rfl, iteT (B := True) ?_⟩
        refine ⟨.ref e, rfl, .int r.1, rfl, .int r.2, rfl, e, xs, es, r.1, r.2, rfl, sz.seq hE, tr.same sz, g, ?_⟩
        refine ⟨_, eD, ?_, same_again nD sz, ?_⟩
        · rw [List.length_map, List.length_map, List.length_take]; exact Nat.lt_of_le_of_lt (show _ ≤ 3000 by omega) (by decide)
        · rw [upd_same, List.take_add_one, er, List.map_append, List.map_append]; rfl
      rintro H1 ⟨s1, eD⟩
      rw [ll, List.take_length] at eD
      exact ⟨D, _, rfl, SqL.of eD, hq _ s1⟩
end
end H8V

/-! xs[::-1] of a list -/
namespace GR
open PySem PySem.Spec PyProof.Rows L2
def tBack (K : PySem.W.Frag) (te : TE) (tk : TO) : TE := fun σ H Q => te σ H fun v H1 => tk σ H1 fun o H2 => o = some (-1) ∧ ∃ a xs, v = .ref a ∧ SqL K H2 a xs ∧ ∀ p, H2 p = none → Q (.ref p) (upd H2 p (.lst xs.reverse))
theorem pe_back {X : Cx} {e st : Expr} {te : TE} {tk : TO} {p2 pos : Pos} (he : PE X e te) (hk : PO X (some st) tk) : PE X (.Subscript e (.Slice none none (some st) p2) pos) (tBack X.K te tk) := by
  refine ⟨fun pins s σ H Q I h => ?_⟩
  refine Subscript_ (thn (he.run pins s σ H _ I h) fun v s1 ⟨x, H1, I1, r1, q1⟩ => ?_)
  refine wpAny_Slice ?_
  rw [evalPart_none]
  refine wpAny_pure ?_
  refine wpAny_pure ?_
  refine thn (hk.run pins s1 σ H1 _ I1 q1) fun vk s2 ⟨o, H2, I2, pk, q2⟩ => ?_
  obtain ⟨rfl, a, xs, rfl, hx, q⟩ := q2
  have I4 : Inv X pins σ H2 { s2 with heap := s2.heap.push { cls := .type "slice", data := .fields #[.none, .none, vk] } } := I2.kept (t' := s2.toks) fun b ob q => Heap.get?_push_of_some _ q
  cases r1
  obtain ⟨its, r, ht, hz⟩ := I4.list hx
  have hlen := r.length
  have hs : ({ s2 with heap := s2.heap.push { cls := .type "slice", data := .fields #[.none, .none, vk] } } : Shared).heap.IsSliceOf s2.heap.objs.size .none .none vk := Heap.IsSliceOf.new ..
  have hg : wpAny (model X.prog X.w) X.A (getItem (.ref a) (.ref s2.heap.objs.size)) (EP X pins σ Q) X.xe { s2 with heap := s2.heap.push { cls := .type "slice", data := .fields #[.none, .none, vk] } } := by
    refine wpAny_getItem_list_slice ht.isList hs .none .none pk (by simp) ?_ (by rw [List.size_toArray] <;> omega)
    rw [PySem.W.krv_pick]
    refine ⟨.ref _, _, I4.laid (t' := s2.toks) (o := .lst xs.reverse) (fun b ob q => Heap.get?_push_of_some _ q) (Nat.le_refl _) ?_, rfl, q _ (I4.hok.fresh (Nat.le_refl _))⟩
    exact ⟨by rw [List.length_reverse]; exact hz, _, 0, r.reverse, Heap.get?_push_size _ rfl⟩
  show wpAny (model X.prog X.w) X.A (subscriptTail e (.Slice none none (some st) p2) (.ref a) (.ref s2.heap.objs.size)) (EP X pins σ Q) X.xe _
  exact tail_any (ops := [.ref a, .ref s2.heap.objs.size]) ht.isList.typeIs slot_list_getitem.lookup hg (by with_unfolding_all rfl)
end GR

set_option pp.maxSteps 900
/-! k50's own defs -/
namespace Z5R
open PySem PySem.Spec PyProof.Rows L2 KA KD PH PM RM K52b XU GML
open XT hiding pairs_get
open NX (Val)
open Z5K
open H8T (spTS)
open H8V (spAm spWe)
abbrev sMY : Stmt := topS 24
abbrev sRT : Stmt := topS 23
theorem scMY : FnScope ["feed", "found", "step", "turn", "low", "high"] ["feed"] (defScope sMY) := ⟨rfl, rfl, rfl, by decide +kernel, rfl, by decide +kernel, by decide +kernel⟩
theorem scRT : FnScope ["feed", "table", "entries", "text", "ranges", "turn", "low", "high", "some", "seen", "entry", "number"] ["feed", "table", "entries"] (defScope sRT) := ⟨rfl, rfl, rfl, by decide +kernel, rfl, by decide +kernel, by decide +kernel⟩
/-- what the loops of `_law_many` keep -/
structure Mn (H : Hp) (f c : Addr) (xs : List V) (es : List Ent) (Hz : Hp) : Prop where
  ch : Ch f H Hz
  fe : FeedAt Hz f
  hc : Hz c = some (.lst xs)
  tr : TripsAt Hz xs es
  v : ∀ e ∈ es, Val e
theorem Mn.go {H : Hp} {f c : Addr} {xs : List V} {es : List Ent} {H1 H2 : Hp} (g : Mn H f c xs es H1) (n : c ≠ f) (k : Ch f H1 H2) (fe : FeedAt H2 f) : Mn H f c xs es H2 :=
  ⟨g.ch.trans k, fe, k _ _ n g.hc, g.tr.ch k (fe_lst g.fe), g.v⟩
theorem Mn.same {H : Hp} {f c : Addr} {xs : List V} {es : List Ent} {H1 H2 : Hp} (g : Mn H f c xs es H1) (n : c ≠ f) (s : Same H1 H2) : Mn H f c xs es H2 := g.go n (Ch.of_same s) (g.fe.same s)
theorem val_many {lo hi st am : Int} (h : st = 1 ∨ st = 7 ∨ st = 10000000) (h0 : 0 ≤ lo) (hl : lo < hi) (hm : hi ≤ 40) (a0 : 0 ≤ am) (a1 : am < 1000) : Val ((lo - 20) * st, (hi - 20) * st, am) := by
  rcases h with rfl | rfl | rfl <;> exact ⟨by show ((lo - 20) * _).natAbs ≤ _; omega, by show ((hi - 20) * _).natAbs ≤ _; omega, by show (lo - 20) * _ < (hi - 20) * _; omega, a0, by show am ≤ _; omega⟩
/-- str(number), the text of an entry -/
def teI : TE := tCB (fun xs H Q => ∃ i, xs = [.int i] ∧ i.natAbs.log2 < 1920 ∧ Q (.str (toString i)) H) (tCons (tVar 11) tNil)
def teO (K : PySem.W.Frag) : TE := tM1 (fun x xs H Q => ∃ a p, ∃ ys : List Str, x = .str a ∧ xs = [.ref p] ∧ (SqL K H p (ys.map V.str) ∨ SqT K H p (ys.map V.str)) ∧
      (ys.map (·.length)).sum + ys.length * a.length ≤ 16777216 ∧ Q (.str (Txt.join a ys)) H) (tC (V.str " ")) (tLc (iTup K (tVar 10)) (gName 11) tYes teI [11])
open H8T (Sml)
theorem trips_all : ∀ {es : List Ent}, H8T.Sml es → PyData.showableAll (dTrips es) = true ∧ PyData.hasDictAll (dTrips es) = false ∧ PyData.leavesShortAll 13 (dTrips es) = true ∧ PyData.weightAll (dTrips es) ≤ 200 * es.length
  | [], _ => ⟨rfl, rfl, rfl, Nat.le_refl _⟩
  | e :: es, h => by
    obtain ⟨b1, b2, b4, b5⟩ := trips_all (es := es) fun x hx => h x (List.mem_cons_of_mem _ hx)
    have he := h e List.mem_cons_self
    have s1 := show_int he.1
    have s2 := show_int he.2.1
    have s3 := show_int he.2.2
    have l1 := leaf_int he.1
    have l2 := leaf_int he.2.1
    have l3 := leaf_int he.2.2
    have w1 := weight_int he.1
    have w2 := weight_int he.2.1
    have w3 := weight_int he.2.2
    have ed : dTrips (e :: es) = .tuple [.int e.1, .int e.2.1, .int e.2.2] :: dTrips es := rfl
    rw [ed]
    have es1 : PyData.showable (.tuple [.int e.1, .int e.2.1, .int e.2.2]) = true := by
      show PyData.showableAll [.int e.1, .int e.2.1, .int e.2.2] = true
      have x : PyData.showableAll [.int e.1, .int e.2.1, .int e.2.2] = (PyData.showable (.int e.1) && (PyData.showable (.int e.2.1) && (PyData.showable (.int e.2.2) && true))) := by simp only [PyData.showableAll]
      rw [x, s1, s2, s3]; rfl
    have es3 : PyData.leavesShort 13 (.tuple [.int e.1, .int e.2.1, .int e.2.2]) = true := by
      have x0 : PyData.leavesShort 13 (.tuple [.int e.1, .int e.2.1, .int e.2.2]) = PyData.leavesShortAll 13 [.int e.1, .int e.2.1, .int e.2.2] := by simp only [PyData.leavesShort]
      have x : PyData.leavesShortAll 13 [.int e.1, .int e.2.1, .int e.2.2] = (PyData.leavesShort 13 (.int e.1) && (PyData.leavesShort 13 (.int e.2.1) && (PyData.leavesShort 13 (.int e.2.2) && true))) := by simp only [PyData.leavesShortAll]
      rw [x0, x, l1, l2, l3]; rfl
    have es4 : PyData.weight (.tuple [.int e.1, .int e.2.1, .int e.2.2]) = PyData.weight (.int e.1) + 1 + (PyData.weight (.int e.2.1) + 1 + (PyData.weight (.int e.2.2) + 1 + 0)) := by simp only [PyData.weight, PyData.weightAll]
    have x1 : PyData.showableAll (.tuple [.int e.1, .int e.2.1, .int e.2.2] :: dTrips es) = (PyData.showable (.tuple [.int e.1, .int e.2.1, .int e.2.2]) && PyData.showableAll (dTrips es)) := by
      conv => lhs; unfold PyData.showableAll
    have x2 : PyData.hasDictAll (.tuple [.int e.1, .int e.2.1, .int e.2.2] :: dTrips es) = (PyData.hasDict (.tuple [.int e.1, .int e.2.1, .int e.2.2]) || PyData.hasDictAll (dTrips es)) := by
      conv => lhs; unfold PyData.hasDictAll
    have x3 : PyData.leavesShortAll 13 (.tuple [.int e.1, .int e.2.1, .int e.2.2] :: dTrips es) = (PyData.leavesShort 13 (.tuple [.int e.1, .int e.2.1, .int e.2.2]) && PyData.leavesShortAll 13 (dTrips es)) := by
      conv => lhs; unfold PyData.leavesShortAll
    have x4 : PyData.weightAll (.tuple [.int e.1, .int e.2.1, .int e.2.2] :: dTrips es) = PyData.weight (.tuple [.int e.1, .int e.2.1, .int e.2.2]) + 1 + PyData.weightAll (dTrips es) := by
      conv => lhs; unfold PyData.weightAll
    refine ⟨?_, ?_, ?_, ?_⟩
    · rw [x1, es1, b1]; rfl
    · rw [x2, b2]; simp only [PyData.hasDict, PyData.hasDictAll, Bool.or_self]
    · rw [x3, es3, b4]; rfl
    · rw [x4, es4, List.length_cons]; omega
theorem nice_tpr {rs : List (Int × Int)} (h : ∀ r ∈ rs, r.1.natAbs < 2 ^ 39 ∧ r.2.natAbs < 2 ^ 39) (hl : rs.length ≤ 2000) : Nice (.tuple (dPairs rs)) :=
  ⟨by simp only [PyData.showable]; exact pairs_show rs h, by simp only [PyData.hasDict]; exact pairs_dict rs, by have := depth_pairs rs; simp only [PyData.depth]; omega, by
    refine PyData.shown_fits (B := 13) (by decide) (by decide) ?_ ?_
    · simp only [PyData.leavesShort]
      exact pairs_leaves rs h
    · have := pairs_weight rs h
      simp only [PyData.weight]
      omega⟩
theorem pairs_upd {H : Hp} {c : Addr} {l : List V} {o : HO} (hc : H c = some (.lst l)) : ∀ {xs : List V} {rs : List (Int × Int)}, PairsAt H xs rs → PairsAt (upd H c o) xs rs
  | [], [], _ => trivial
  | x :: xs, r :: rs, ⟨⟨p, h1, h2⟩, h3⟩ => ⟨⟨p, h1, by rw [upd_ne (fun z => by rw [z, hc] at h2; cases h2)]; exact h2⟩, pairs_upd hc h3⟩
  | [], _ :: _, h => h.elim
  | _ :: _, [], h => h.elim
theorem pairs_ch {f : Addr} {H H' : Hp} (c : Ch f H H') (hf : FeedAt H f) : ∀ {xs : List V} {rs : List (Int × Int)}, PairsAt H xs rs → PairsAt H' xs rs
  | [], [], _ => trivial
  | x :: xs, r :: rs, ⟨⟨p, h1, h2⟩, h⟩ => ⟨⟨p, h1, ch_tup c hf h2⟩, pairs_ch c hf h⟩
  | [], _ :: _, h => h.elim
  | _ :: _, [], h => h.elim
theorem PairsAt.rev2 {H : Hp} : ∀ {xs : List V} {rs : List (Int × Int)}, PairsAt H xs rs → PairsAt H xs.reverse rs.reverse
  | [], [], _ => trivial
  | x :: xs, r :: rs, ⟨h1, h⟩ => by
    rw [List.reverse_cons, List.reverse_cons]
    exact (PairsAt.rev2 h).append ⟨h1, trivial⟩
  | [], _ :: _, h => h.elim
  | _ :: _, [], h => h.elim
theorem nice_tt {es : List Ent} (h : H8T.Sml es) (hl : es.length ≤ 500) : Nice (.tuple (dTrips es)) := by
  obtain ⟨b1, b2, b4, b5⟩ := trips_all h
  refine ⟨by simp only [PyData.showable]; exact b1, by simp only [PyData.hasDict]; exact b2, by have := depth_trips es; simp only [PyData.depth]; omega, ?_⟩
  refine PyData.shown_fits (B := 13) (by decide) (by decide) (by simp only [PyData.leavesShort]; exact b4) ?_
  simp only [PyData.weight]
  omega
def SmP (rs : List (Int × Int)) : Prop := ∀ r ∈ rs, r.1.natAbs < 2 ^ 39 ∧ r.2.natAbs < 2 ^ 39
theorem sq_dp {K : PySem.W.Frag} {H : Hp} {a : Addr} {xs : List V} {rs : List (Int × Int)} (h : Sq K H a xs) (pa : PairsAt H xs rs) (s : SmP rs) (l : rs.length ≤ 2000) : ∃ d, Nice d ∧ ∀ H', Same H H' → Dp K H' (.ref a) d := by
  rcases h with h | h
  · exact ⟨_, nice_prs s l, fun H' e => .lst (e.seq h) (dp_pairs (pa.same e))⟩
  · exact ⟨_, nice_tpr s l, fun H' e => .tup (SqT_same e h) (dp_pairs (pa.same e))⟩
theorem tw_of {K : PySem.W.Frag} {H : Hp} {C x a : Addr} {T : List Ent} {xs : List V} {rs : List (Int × Int)} {Q : VK} {E : XK} (tab : TabAt H C x T) (le : T.length ≤ 500) (h : Sq K H a xs) (pa : PairsAt H xs rs) (l : rs.length ≤ 2000) (q : ∀ H', Same H H' → Q (.int (wear T rs)) H') :
    spTWl K C [.ref x, .ref a] H Q E ∨ spTWt K C [.ref x, .ref a] H Q E := by
  rcases h with h | h
  · exact .inl ⟨x, a, T, xs, rs, rfl, tab, le, h, pa, l, q⟩
  · exact .inr ⟨x, a, T, xs, rs, rfl, tab, le, h, pa, l, q⟩
theorem vsml {es : List Ent} (v : ∀ e ∈ es, Val e) : H8T.Sml es := fun e he => by
  have h := v e he
  exact ⟨Nat.lt_of_le_of_lt h.lo (by decide), Nat.lt_of_le_of_lt h.hi (by decide), by have := h.am; have := h.le; omega⟩
theorem vgood {es : List Ent} (v : ∀ e ∈ es, Val e) : Good es := fun e he => ⟨(v e he).lt, (v e he).am⟩
theorem amt_bd {es : List Ent} (v : ∀ e ∈ es, Val e) (lo hi : Int) : 0 ≤ amt es lo hi ∧ amt es lo hi ≤ 1000000 := by
  have h0 := amt_nonneg (vgood v) lo hi
  refine ⟨h0, ?_⟩
  apply Classical.byContradiction
  intro z
  obtain ⟨e, he, _, k⟩ := (amt_lt es lo hi (t := 1000000) (by decide)).mp (by omega)
  have := (v e he).le
  omega
theorem wear_bd {es : List Ent} (v : ∀ e ∈ es, Val e) : ∀ rs : List (Int × Int), 0 ≤ wear es rs ∧ wear es rs ≤ 1000000 * rs.length
  | [] => ⟨Int.le_refl _, by show (0 : Int) ≤ _; decide⟩
  | r :: rs => by
    have h1 := amt_bd v r.1 r.2
    have h2 := wear_bd v rs
    have e : wear es (r :: rs) = amt es r.1 r.2 + wear es rs := by unfold wear; rw [List.map_cons, List.sum_cons]
    rw [e, List.length_cons]
    omega
theorem wear_sm {es : List Ent} (v : ∀ e ∈ es, Val e) {rs : List (Int × Int)} (h : rs.length ≤ 2000) : (wear es rs).natAbs < 2 ^ 39 := by
  have := wear_bd v rs
  omega
theorem amt_sm {es : List Ent} (v : ∀ e ∈ es, Val e) (lo hi : Int) : (amt es lo hi).natAbs < 2 ^ 39 := by
  have := amt_bd v lo hi
  omega
theorem amt_all {es : List Ent} (v : ∀ e ∈ es, Val e) {m : Int} (hm : m ∈ (0 :: es.map (·.2.2))) (ha : ∀ y ∈ (0 :: es.map (·.2.2)), y ≤ m) : amt es (-1000000000) 1000000000 = m := by
  refine same_lt (amt_bd v _ _).1 (ha 0 List.mem_cons_self) fun t ht => ?_
  rw [amt_lt _ _ _ ht]
  constructor
  · rintro ⟨e, he, _, k⟩
    have := ha e.2.2 (List.mem_cons_of_mem _ (List.mem_map.mpr ⟨e, he, rfl⟩))
    omega
  · intro k
    rcases List.mem_cons.mp hm with e | e
    · omega
    · obtain ⟨x, hx, rfl⟩ := List.mem_map.mp e
      have h := v x hx
      exact ⟨x, hx, ⟨by have := h.lo; omega, by have := h.hi; omega⟩, k⟩
theorem ent_at {e : Ent} {j : Nat} {y : V} (h : [V.int e.1, .int e.2.1, .int e.2.2][j]? = some y) : ∃ n, y = .int n ∧ (NX.wds e)[j]? = some (NX.tI n) ∧ (n = e.1 ∨ n = e.2.1 ∨ n = e.2.2) := by
  match j, h with
  | 0, h => exact ⟨e.1, (Option.some.inj h).symm, rfl, .inl rfl⟩
  | 1, h => exact ⟨e.2.1, (Option.some.inj h).symm, rfl, .inr (.inl rfl)⟩
  | 2, h => exact ⟨e.2.2, (Option.some.inj h).symm, rfl, .inr (.inr rfl)⟩
  | n + 3, h => simp at h
def rgE (e : Ent) : Int × Int := (e.1, e.2.1)
def teS (K : PySem.W.Frag) : TE := tSl (rSlT K) (tVar 10) tNoPart (tPart (tC (.int 2)))
theorem small3 {n : Nat} (h : n ≤ 3000) : n < sizeLine := Nat.lt_of_le_of_lt h (by decide)
section
variable {P : Program} {w : World} {K : PySem.W.Frag} {mg : Str → Option Value} {base : Heap}
def spMY : Sp := fun vs H Q _ => ∃ (f : Addr), vs = [.ref f] ∧ FeedAt H f ∧ ∀ H' c xs es, Ch f H H' → FeedAt H' f → H c = none → c ≠ f → H' c = some (.lst xs) → TripsAt H' xs es → (∀ e ∈ es, Val e) → es.length ≤ 61 → Q (.ref c) H'
theorem ok_MY {f : Addr} {fd : FuncData} {fTA : Addr} {dTA : FuncData} {fPI : Addr} {dPI : FuncData} {fIV : Addr} {dIV : FuncData} {k : Nat} (F : Fun K "_law_many" "_law_many" sMY f fd) (GTA : FnOk P w K mg base CX0 (k + 1) fTA dTA ["feed", "many"] spTake) (gTA : mg "_law_take" = some (.ref fTA)) (kTA : PySem.W.keepIn K (.ref fTA) = true) (bTA : Binds K dTA ["feed", "many"] []) (GPI : FnOk P w K mg base CX0 (k + 2) fPI dPI ["feed", "some"] (spPick K)) (gPI : mg "_law_pick" = some (.ref fPI)) (kPI : PySem.W.keepIn K (.ref fPI) = true) (bPI : Binds K dPI ["feed", "some"] []) (GIV : FnOk P w K mg base CX0 (k + 2) fIV dIV ["feed", "most"] spIv) (gIV : mg "_law_interval" = some (.ref fIV)) (kIV : PySem.W.keepIn K (.ref fIV) = true) (bIV : Binds K dIV ["feed", "most"] []) (mr : mg "range" = none) : FnOk P w K mg base CX0 (k + 3) f fd ["feed"] spMY := by
  refine F.ok scMY (fun vs H Q E h => ?_) (fun cdv A outer s H vs Q E hr h => ?_)
  · obtain ⟨f, rfl, _⟩ := h
    rfl
  · obtain ⟨f, rfl, fe, hq⟩ := h
    refine ⟨_, (pss_cons (ps_par (i := 1) (j := 2) (by rfl) scMY.nd rfl rfl (by decide) rfl rfl (pa_cons (pe_lst (pa_cons (pe_tup (pa_cons (pe_un un_neg (pe_op op_pow pe_int pe_int)) (pa_cons (pe_op op_pow pe_int pe_int) (pa_cons pe_int pa_nil)))) pa_nil)) (pa_cons (pe_call (GPI.mono (show k + 2 ≤ k + 2 by omega)) hr (by rfl) gPI kPI bPI .nil pass0 (pa_cons (pv 0) (pa_cons (pe_lst (pa_cons pe_int (pa_cons pe_int (pa_cons (pe_op op_pow pe_int pe_int) pa_nil)))) pa_nil))) pa_nil)) (by rfl))
      (pss_cons (ps_for PassesOwn.never rfl (pi_range1 rfl mr (pa_cons pe_int pa_nil)) (pg_name (i := 3) scMY.nd rfl (.inl rfl))
      (pss_cons (ps_asg (pe_call (GIV.mono (show k + 2 ≤ k + 2 by omega)) hr (by rfl) gIV kIV bIV .nil pass0 (pa_cons (pv 0) (pa_cons pe_int pa_nil))) (pg_tup rfl (pgs_cons (pg_name (i := 4) scMY.nd rfl (.inl rfl)) (pgs_cons (pg_name (i := 5) scMY.nd rfl (.inl rfl)) pgs_nil))))
      (pss_one (ps_expr (pe_bm PySem.F.plainAttrs_list PySem.F.slot_list_append PySem.F.type_list_append mt_append (pv 1) (pa_cons (pe_tup (pa_cons (pe_op op_mul (pe_op op_sub (pv 4) pe_int) (pv 2)) (pa_cons (pe_op op_mul (pe_op op_sub (pv 5) pe_int) (pv 2)) (pa_cons (pe_call (GTA.mono (show k + 1 ≤ k + 2 by omega)) hr (by rfl) gTA kTA bTA .nil pass0 (pa_cons (pv 0) (pa_cons pe_int pa_nil))) pa_nil)))) pa_nil))))))
      (pss_one (ps_ret (pv 1))))), ?_⟩
    refine ⟨10, 9, rfl, rfl, ⟨by decide, by decide, by decide⟩, _, rfl, 10, 9, rfl, rfl, ⟨by decide, by decide, by decide⟩, by show 3 ≤ sizeLine; decide, fun p np => ⟨by show 1 ≤ sizeLine; decide, fun c nc => ?_⟩⟩
    have s1 := same_new (o := .tup [.int (-(10 ^ (9 : Int).toNat)), .int (10 ^ (9 : Int).toNat), .int 5]) np
    have s2 := same_new (o := .lst [.ref p]) nc
    have nc0 : H c = none := by
      cases e : H c with
      | none => rfl
      | some o => exact absurd ((s1 _ _ e).symm.trans nc) (by simp)
    have ncf : c ≠ f := fe.ne nc0
    have g0 : Mn H f c [.ref p] [(-1000000000, 1000000000, 5)] (upd (upd H p (.tup [.int (-(10 ^ (9 : Int).toNat)), .int (10 ^ (9 : Int).toNat), .int 5])) c (.lst [.ref p])) :=
      ⟨Ch.of_same (s1.trans s2), fe.same (s1.trans s2), upd_same, ⟨⟨p, rfl, s2 _ _ upd_same⟩, trivial⟩, fun e he => by rw [List.mem_singleton.mp he]; exact ⟨by decide, by decide, by decide, by decide, by decide⟩⟩
    generalize upd (upd H p (.tup [.int (-(10 ^ (9 : Int).toNat)), .int (10 ^ (9 : Int).toNat), .int 5])) c (.lst [.ref p]) = H1 at g0 ⊢
    clear s1 s2 np nc
    refine ⟨.ref f, rfl, 10, 7, rfl, rfl, ⟨by decide, by decide, by decide⟩, by show 3 ≤ sizeLine; decide, fun l nl => ?_⟩
    have sl := same_new (o := .lst [.int 1, .int 7, .int (10 ^ (7 : Int).toNat)]) nl
    have g1 := g0.same ncf sl
    refine ⟨f, l, _, rfl, g0.fe.ne nl, SqL.of upd_same, by show 0 < 3; decide, by show 3 ≤ 1000; decide, g1.fe, fun H2 j v hv c2 fe2 => ?_⟩
    obtain ⟨st, rfl, hst⟩ : ∃ st : Int, v = .int st ∧ (st = 1 ∨ st = 7 ∨ st = 10000000) := by
      match j, hv with
      | 0, hv => exact ⟨1, (Option.some.inj hv).symm, .inl rfl⟩
      | 1, hv => exact ⟨7, (Option.some.inj hv).symm, .inr (.inl rfl)⟩
      | 2, hv => exact ⟨_, (Option.some.inj hv).symm, .inr (.inr (by decide))⟩
      | n + 3, hv => simp at hv
    have g2 := g1.go ncf c2 fe2
    clear g0 g1 c2 fe2 sl
    refine ⟨.ref c, .int st, rfl, 60, rfl, by decide, by decide, for_range (lo := 0) (n := 60) (fun i σ Hz => ∃ xs es, Mn H f c xs es Hz ∧ es.length = 1 + i ∧ ∃ r3 r4 r5 : Option V, σ = [some (.ref f), some (.ref c), some (.int st), r3, r4, r5]) ⟨_, _, g2, rfl, _, _, _, rfl⟩ ?_ ?_⟩
    · clear g2
      rintro i σ Hz hi ⟨xs, es, g, le, r3, r4, r5, rfl⟩
      have lx := g.tr.length
      refine ⟨.ref f, rfl, f, 40, rfl, by decide, by decide, g.fe, fun H3 p lo hi c3 fe3 np hp lt l0 hm => ?_⟩
      have g3 := g.go ncf c3 fe3
      refine ⟨p, _, rfl, SqT.of hp, rfl, .int lo, [.int hi], rfl, .int hi, [], rfl, rfl, ?_⟩
      have b20 : CMul (lo - 20) st := .inl ⟨by omega, by omega⟩
      have b21 : CMul (hi - 20) st := .inl ⟨by omega, by omega⟩
      refine ⟨.ref c, rfl, .inl ⟨rfl, _, SqL.of g3.hc⟩, .int lo, rfl, lo, 20, rfl, rfl, .int st, rfl, _, st, rfl, rfl, b20, .int hi, rfl, hi, 20, rfl, rfl, .int st, rfl, _, st, rfl, rfl, b21, .ref f, rfl, f, 1000, rfl, by decide, by decide, g3.fe, fun H4 am c4 fe4 a0 a1 => ?_⟩
      have g4 := g3.go ncf c4 fe4
      refine ⟨by show 3 ≤ sizeLine; decide, fun q nq => ?_⟩
      have sq := same_new (o := tri ((lo - 20) * st, (hi - 20) * st, am)) nq
      have g5 := g4.same ncf sq
      refine ⟨c, xs, _, rfl, rfl, g5.hc, Nat.lt_of_le_of_lt (show xs.length ≤ 3000 by omega) (by decide), ?_⟩
      refine ⟨xs ++ [.ref q], es ++ [((lo - 20) * st, (hi - 20) * st, am)], ⟨Ch.again nc0 g5.ch, g5.fe.upd ncf, upd_same, (g5.tr.app (trips_one (e := ((lo - 20) * st, (hi - 20) * st, am)) upd_same)).but (fun b o n e => by rw [upd_ne n]; exact e) g5.hc, fun e he => ?_⟩, by rw [List.length_append]; show es.length + 1 = _; omega, _, _, _, rfl⟩
      rcases List.mem_append.mp he with z | z
      · exact g.v e z
      · rw [List.mem_singleton.mp z]
        exact val_many hst l0 lt hm a0 a1
    rintro σ Hz ⟨xs, es, g, le, r3, r4, r5, rfl⟩
    exact ⟨.ref c, rfl, hq Hz c xs es g.ch g.fe nc0 ncf g.hc g.tr g.v (by omega)⟩
def spRT (C : Addr) : Sp := fun vs H Q _ => ∃ (f x c : Addr) (xs : List V) (es : List Ent), vs = [.ref f, .ref x, .ref c] ∧ FeedAt H f ∧ TabAt H C x es ∧ c ≠ f ∧ H c = some (.lst xs) ∧ TripsAt H xs es ∧ (∀ e ∈ es, Val e) ∧ es.length ≤ 61 ∧
  ∀ H', Ch f H H' → FeedAt H' f → Q (.bl true) H'
theorem len_rt {C : Addr} : ∀ vs H Q E, spRT C vs H Q E → vs.length = ["feed", "table", "entries"].length := by
  rintro vs H Q E ⟨f, x, c, xs, es, rfl, _⟩
  rfl
theorem ok_RT {f0 : Addr} {fd : FuncData} {C fUS fUA fUW fTI fEQ : Addr} {dUS dUA dUW dTI dEQ : FuncData} {fTA : Addr} {dTA : FuncData} {fIV : Addr} {dIV : FuncData} {fAM : Addr} {dAM : FuncData} {fWE : Addr} {dWE : FuncData} {k : Nat} (F : Fun K "_law_right" "_law_right" sRT f0 fd) (GTA : FnOk P w K mg base CX0 (k + 1) fTA dTA ["feed", "many"] spTake) (gTA : mg "_law_take" = some (.ref fTA)) (kTA : PySem.W.keepIn K (.ref fTA) = true) (bTA : Binds K dTA ["feed", "many"] []) (GIV : FnOk P w K mg base CX0 (k + 2) fIV dIV ["feed", "most"] spIv) (gIV : mg "_law_interval" = some (.ref fIV)) (kIV : PySem.W.keepIn K (.ref fIV) = true) (bIV : Binds K dIV ["feed", "most"] []) (GAM : FnOk P w K mg base CX0 (k + 1) fAM dAM ["entries", "low", "high"] (spAm K)) (gAM : mg "_law_amount" = some (.ref fAM)) (kAM : PySem.W.keepIn K (.ref fAM) = true) (bAM : Binds K dAM ["entries", "low", "high"] []) (GWE : FnOk P w K mg base CX0 (k + 2) fWE dWE ["entries", "ranges"] (spWe K)) (gWE : mg "_law_wear" = some (.ref fWE)) (kWE : PySem.W.keepIn K (.ref fWE) = true) (bWE : Binds K dWE ["entries", "ranges"] []) (gC : mg "Table" = some (.ref C)) (tbl : Tbl K C) (ins : C8.InsC K C) (mkt : Mk K C fTI)
  (GTI : FnOk P w K mg base CX0 (k + 1) fTI dTI ["self", "entries"] (spTI K C)) (bTI : Binds K dTI ["self", "entries"] [])
  (mUA : Meth K C "amount" fUA) (GUA : FnOk P w K mg base CX0 (k + 2) fUA dUA ["self", "low", "high"] (spTA C)) (bUA : Binds K dUA ["self", "low", "high"] [])
  (mUW : Meth K C "wear" fUW) (GUW : FnOk P w K mg base CX0 (k + 3) fUW dUW ["self", "ranges"] (fun vs H Q E => spTWl K C vs H Q E ∨ spTWt K C vs H Q E)) (bUW : Binds K dUW ["self", "ranges"] [])
  (fnUS : PySem.W.findIn K (.ref C) "__str__" = some (some (.ref fUS))) (iUS : PySem.W.isFn K (.ref fUS) = true) (GUS : FnOk P w K mg base CX0 (k + 1) fUS dUS ["self"] (spTS C)) (bUS : Binds K dUS ["self"] [])
  (fnEQ : PySem.W.findIn K (.ref C) "__eq__" = some (some (.ref fEQ))) (iEQ : PySem.W.isFn K (.ref fEQ) = true) (GEQ : FnOk P w K mg base CX0 (k + 1) fEQ dEQ ["self", "other"] (spEQ C)) (bEQ : Binds K dEQ ["self", "other"] [])
  (mr : mg "range" = none) (mrp : mg "repr" = none) (mst : mg "str" = none) (mtu : mg "tuple" = none) (mis : mg "isinstance" = none) (mmx : mg "max" = none) : KW.Kept P w K mg base (k + 6) f0 fd ["feed", "table", "entries"] (spRT C) := by
  refine KW.kept_of F scRT len_rt (fun cdv A outer s H vs Q E hgA hr h => ?_)
  · obtain ⟨f, x, c, xs, es, rfl, fe, tab, ncf, hc, tr, va, le, hq⟩ := h
    have hg : (A.deeper (envOfC "_law_right" (defScope sRT) s.heap.objs.size f0 cdv)).guards = some [] := hgA
    have hu := XT.hu_of hr
    refine ⟨_, (pss_cons (ps_set (i := 3) scRT.nd rfl (.inl rfl) (pe_join pe_str (pe_lc (own := [("entry", 10)]) (g := gName 10) (tt := tYes) (te := teO K) rfl scRT.nd (pi_list (pv 2)) (blkOk_by (own := [("entry", 10)]) (N := ["feed", "table", "entries", "text", "ranges", "turn", "low", "high", "some", "seen", "entry", "number"]) (sc := defScope sRT) (by decide +kernel)) (fun _ _ _ _ _ => (pg_name (i := 10) scRT.nd rfl (Or.inl rfl) (Or.inr rfl))) (fun _ _ _ _ _ => pts_nil) (fun _ _ _ _ _ => (pe_join pe_str (pe_lc (own := [("number", 11)]) (g := gName 11) (tt := tYes) (te := teI) rfl scRT.nd (pi_tup (pv 10)) (blkOk_by (own := [("number", 11)]) (by with_unfolding_all rfl)) (fun _ _ _ _ _ => (pg_name (i := 11) scRT.nd rfl (Or.inl rfl) (Or.inr rfl))) (fun _ _ _ _ _ => pts_nil) (fun _ _ _ _ _ => (pe_callTy call_str_int (by rfl) mst (by decide +kernel) (pa_cons (pv 11) pa_nil)))))))))
      (pss_cons (ps_if (PW.pt (pw_or (pt_not (pt_val (pe_callB (C8.call_isC ins) (by rfl) mis (by decide +kernel) (pa_cons (pv 1) (pa_cons (pe_glob (v := .ref C) (by rfl) gC rfl) pa_nil))))) (pw_or (pt_cmpR op_ne (pe_callB (cr_reprD hg hu) (by rfl) mrp (by decide +kernel) (pa_cons (pe_fld (pv 1) rfl) pa_nil)) (pe_callB (cr_reprD hg hu) (by rfl) mrp (by decide +kernel) (pa_cons (pe_callTy call_tuple_of (by rfl) mtu (by decide +kernel) (pa_cons (pv 2) pa_nil)) pa_nil)) (nomark _)) (pw_or1 (pt_cmpR op_ne (pe_callTy (GS.cr_strOwn (GUS.mono (show k + 1 ≤ k + 3 by omega)) hr fnUS iUS bUS pass0) (by rfl) mst (by decide +kernel) (pa_cons (pv 1) pa_nil)) (pv 3) (nomark _)))))) (pss_one (ps_ret pe_bl)) pss_nil)
      (pss_cons (ps_setLc (i := 4) (own := [("entry", 10)]) (g := gName 10) (tt := tYes) (te := teS K) rfl scRT.nd rfl rfl (sw_true rfl rfl rfl (by decide +kernel)) (pi_list (pv 2)) (blkOk_by (own := [("entry", 10)]) (N := ["feed", "table", "entries", "text", "ranges", "turn", "low", "high", "some", "seen", "entry", "number"]) (sc := defScope sRT) (by decide +kernel)) (fun _ _ _ _ _ => (pg_name (i := 10) scRT.nd rfl (Or.inl rfl) (Or.inr rfl))) (fun _ _ _ _ _ => pts_nil) (fun _ _ _ _ _ => (pe_slice sl_tup (pv 10) po_none (po_some pe_int))))
      (pss_cons (ps_for PassesOwn.never rfl (pi_range1 rfl mr (pa_cons (pe_call (GTA.mono (show k + 1 ≤ k + 5 by omega)) hr (by rfl) gTA kTA bTA .nil pass0 (pa_cons (pv 0) (pa_cons pe_int pa_nil))) pa_nil)) (pg_name (i := 5) scRT.nd rfl (.inl rfl))
      (pss_one (ps_expr (pe_bm PySem.F.plainAttrs_list PySem.F.slot_list_append PySem.F.type_list_append mt_append (pv 4) (pa_cons (pe_call (GIV.mono (show k + 2 ≤ k + 5 by omega)) hr (by rfl) gIV kIV bIV .nil pass0 (pa_cons (pv 0) (pa_cons pe_int pa_nil))) pa_nil)))))
      (pss_cons (ps_for PassesOwn.never rfl (pi_list (pv 4)) (pg_tup rfl (pgs_cons (pg_name (i := 6) scRT.nd rfl (.inl rfl)) (pgs_cons (pg_name (i := 7) scRT.nd rfl (.inl rfl)) pgs_nil)))
      (pss_one (ps_if (pt_cmpR op_ne (pe_callB SkE.call_repr_int (by rfl) mrp (by decide +kernel) (pa_cons (pe_meth (pv 1) tbl.cl mUA (GUA.mono (show k + 2 ≤ k + 5 by omega)) hr bUA .nil pass0 (pa_cons (pv 6) (pa_cons (pv 7) pa_nil))) pa_nil)) (pe_callB SkE.call_repr_int (by rfl) mrp (by decide +kernel) (pa_cons (pe_call (GAM.mono (show k + 1 ≤ k + 5 by omega)) hr (by rfl) gAM kAM bAM .nil pass0 (pa_cons (pv 2) (pa_cons (pv 6) (pa_cons (pv 7) pa_nil)))) pa_nil)) (nomark _)) (pss_one (ps_ret pe_bl)) pss_nil)))
      (pss_cons (ps_for PassesOwn.never rfl (pi_tup (pe_tup (pa_cons (pv 4) (pa_cons (pe_callTy call_tuple_of (by rfl) mtu (by decide +kernel) (pa_cons (pe_op op_cat (pv 4) (pv 4)) pa_nil)) (pa_cons (pe_lst pa_nil) (pa_cons (GR.pe_back (pv 4) (po_some (pe_un un_neg pe_int))) pa_nil)))))) (pg_name (i := 8) scRT.nd rfl (.inl rfl))
      (pss_cons (ps_set (i := 9) scRT.nd rfl (.inl rfl) (pe_callB (cr_reprD hg hu) (by rfl) mrp (by decide +kernel) (pa_cons (pv 8) pa_nil)))
      (pss_one (ps_if (PW.pt (pw_or (pt_cmpR op_ne (pe_callB SkE.call_repr_int (by rfl) mrp (by decide +kernel) (pa_cons (pe_meth (pv 1) tbl.cl mUW (GUW.mono (show k + 3 ≤ k + 5 by omega)) hr bUW .nil pass0 (pa_cons (pv 8) pa_nil)) pa_nil)) (pe_callB SkE.call_repr_int (by rfl) mrp (by decide +kernel) (pa_cons (pe_call (GWE.mono (show k + 2 ≤ k + 5 by omega)) hr (by rfl) gWE kWE bWE .nil pass0 (pa_cons (pv 2) (pa_cons (pv 8) pa_nil))) pa_nil)) (nomark _)) (pw_or1 (pt_cmpR op_ne (pe_callB (cr_reprD hg hu) (by rfl) mrp (by decide +kernel) (pa_cons (pv 8) pa_nil)) (pv 9) (nomark _))))) (pss_one (ps_ret pe_bl)) pss_nil))))
      (pss_cons (ps_if (pt_cmpR op_ne (pe_meth (pv 1) tbl.cl mUA (GUA.mono (show k + 2 ≤ k + 5 by omega)) hr bUA .nil pass0 (pa_cons (pe_un un_neg (pe_op op_pow pe_int pe_int)) (pa_cons (pe_op op_pow pe_int pe_int) pa_nil))) (pe_callB (GU.cr_maxS rfl) (by rfl) mmx (by decide +kernel) (pa_cons (pe_op op_cat (pe_lst (pa_cons pe_int pa_nil)) (pe_lc (own := [("entry", 10)]) (g := gName 10) (tt := tYes) (te := tOp (rIxT K) (tVar 10) (tC (.int 2))) rfl scRT.nd (pi_list (pv 2)) (blkOk_by (own := [("entry", 10)]) (N := ["feed", "table", "entries", "text", "ranges", "turn", "low", "high", "some", "seen", "entry", "number"]) (sc := defScope sRT) (by decide +kernel)) (fun _ _ _ _ _ => (pg_name (i := 10) scRT.nd rfl (Or.inl rfl) (Or.inr rfl))) (fun _ _ _ _ _ => pts_nil) (fun _ _ _ _ _ => (pe_ix ix_tup (pv 10) pe_int (fun _ _ => rfl))))) pa_nil)) (nomark _)) (pss_one (ps_ret pe_bl)) pss_nil)
      (pss_one (ps_ret (pe_and (pe_cmpR op_eq (pe_callB (cr_reprD hg hu) (by rfl) mrp (by decide +kernel) (pa_cons (pe_fld (pv 1) rfl) pa_nil)) (pe_callB (cr_reprD hg hu) (by rfl) mrp (by decide +kernel) (pa_cons (pe_callTy call_tuple_of (by rfl) mtu (by decide +kernel) (pa_cons (pv 2) pa_nil)) pa_nil)) (nomark _)) (pe_and (pe_cmpR op_eq (pe_callTy (GS.cr_strOwn (GUS.mono (show k + 1 ≤ k + 3 by omega)) hr fnUS iUS bUS pass0) (by rfl) mst (by decide +kernel) (pa_cons (pv 1) pa_nil)) (pv 3) (nomark _)) (pe_one (pe_cmpR (GN.op_eqOwn (GEQ.mono (show k + 1 ≤ k + 5 by omega)) hr fnEQ iEQ bEQ pass0) (pv 1) (pe_make mkt (GTI.mono (show k + 1 ≤ k + 4 by omega)) hr (by rfl) gC bTI .nil pass0 (pa_cons (pv 2) pa_nil)) (nomark _)))))))))))))), ?_⟩
    have sml := vsml va
    have gd := vgood va
    have ll := tr.length
    refine ⟨⟨_, rfl⟩, .ref c, rfl, c, rfl, ⟨_, SqL.of hc⟩, fun D nD => ?_⟩
    refine lc_list (K := K) (a := c) (xs := xs) (fun i Hz => Same H Hz ∧ Hz D = some (.lst (((es.take i).map NX.row).map V.str))) ⟨same_new nD, upd_same⟩ (fun i Hz _ z => SqL.of (z.1 _ _ hc)) ?_ ?_
    · rintro i y Hz hy ⟨sz, eD⟩
      obtain ⟨p, e, rfl, ee, hp⟩ := tr.get hy
      have hi := (List.getElem?_eq_some_iff.mp ee).1
      have me := List.mem_of_getElem? ee
      have hp2 := sz _ _ hp
      refine ⟨rfl, iteT (B := True) ⟨⟨_, rfl⟩, .ref p, rfl, p, rfl, ⟨_, SqT.of hp2⟩, fun D2 nD2 => ?_⟩⟩
      refine lc_tup (K := K) (a := p) (xs := [.int e.1, .int e.2.1, .int e.2.2]) (fun j Hw => Hw = upd Hz D2 (.lst (((NX.wds e).take j).map V.str))) rfl (fun j Hw _ z => by rw [z]; exact SqT.of ((same_new nD2) _ _ hp2)) ?_ ?_
      · rintro j z Hw hz rfl
        obtain ⟨n, rfl, hw, hn⟩ := ent_at hz
        have nb : n.natAbs < 2 ^ 39 := by
          rcases hn with rfl | rfl | rfl
          · exact (sml e me).1
          · exact (sml e me).2.1
          · exact (sml e me).2.2
        refine ⟨rfl, iteT (B := True) ⟨.int n, rfl, n, rfl, WN.ti_log nb, _, upd_same, ?_, ?_⟩⟩
        · rw [List.length_map, List.length_take]; exact small3 (by show min j 3 ≤ 3000; omega)
        · rw [upd_upd, List.take_add_one, hw, List.map_append]; rfl
      rintro Hw rfl
      refine ⟨_, D2, NX.wds e, rfl, rfl, .inl (SqL.of upd_same), ?_, ?_⟩
      · have h2 : ((" " : Str)).length = 1 := by decide +kernel
        have l1 := WN.ti_len (sml e me).1
        have l2 := WN.ti_len (sml e me).2.1
        have l3 := WN.ti_len (sml e me).2.2
        rw [h2]
        show (NX.tI e.1).length + ((NX.tI e.2.1).length + ((NX.tI e.2.2).length + 0)) + 3 * 1 ≤ _
        have e1 : (NX.tI e.1).length = (WN.ti e.1).length := rfl
        have e2 : (NX.tI e.2.1).length = (WN.ti e.2.1).length := rfl
        have e3 : (NX.tI e.2.2).length = (WN.ti e.2.2).length := rfl
        omega
      · refine ⟨_, (same_new nD2) _ _ eD, ?_, same_again nD (sz.trans (same_new nD2)), ?_⟩
        · rw [List.length_map, List.length_map, List.length_take]; exact small3 (by omega)
        · rw [upd_same, List.take_add_one, ee, List.map_append, List.map_append]; rfl
    rintro H1 ⟨s1, eD⟩
    rw [ll, List.take_length] at eD
    refine ⟨_, D, es.map NX.row, rfl, rfl, .inl (SqL.of eD), ?_, ?_⟩
    · have h1 := WN.sum_le (B := 41) (xs := es.map NX.row) fun x hx => by
        obtain ⟨r, hr, e⟩ := List.mem_map.mp hx
        rw [← e]
        exact row_len (va r hr)
      rw [nl_len, List.length_map] at *
      omega
    obtain ⟨dx, t, ys, hx, ht, trt⟩ := id tab
    refine ⟨.ref x, rfl, x, dx, _, rfl, s1 _ _ hx, _, rfl, iteF ?_⟩
    refine ⟨.ref x, rfl, x, C, dx, _, .ref t, rfl, s1 _ _ hx, tbl.cl, tbl.nE, rfl, t, .tuple (dTrips es), rfl, .tup (SqT.of (s1 _ _ ht)) (dp_trips (trt.same s1)), nice_tt sml (by omega), .ref c, rfl, c, xs, rfl, .inl ⟨SqL.of (s1 _ _ hc), fun u nu => ?_⟩⟩
    have su := same_new (o := .tup xs) nu
    refine ⟨u, .tuple (dTrips es), rfl, .tup (SqT.of upd_same) (dp_trips (tr.same (s1.trans su))), nice_tt sml (by omega), rfl, _, rfl, ?_⟩
    rw [decide_eq_true rfl]
    have s2 := s1.trans su
    generalize upd H1 u (.tup xs) = H2 at s2 ⊢
    refine iteF ⟨.ref x, rfl, x, dx, _, rfl, s2 _ _ hx, x, es, rfl, tab.same s2, by omega, sml, fun H3 s23 => ⟨_, rfl, .str (NX.txt es), rfl, rfl, _, rfl, ?_⟩⟩
    rw [decide_eq_true (show V.str (H8T.ttx es) = V.str (NX.txt es) by rw [H8T.ttx_txt])]
    have s3 := s2.trans s23
    clear su s23 eD nu
    refine iteF ?_
    -- ranges
    refine ⟨.ref c, rfl, c, rfl, ⟨_, SqL.of (s3 _ _ hc)⟩, fun R nR => ?_⟩
    have nR0 : H R = none := s3.free nR
    have nRf : R ≠ f := fe.ne nR0
    refine lc_list (K := K) (a := c) (xs := xs) (fun i Hz => Same H3 Hz ∧ ∃ acc, Hz R = some (.lst acc) ∧ PairsAt Hz acc ((es.take i).map rgE)) ⟨same_new nR, [], upd_same, trivial⟩ (fun i Hz _ z => SqL.of (z.1 _ _ (s3 _ _ hc))) ?_ ?_
    · rintro i y Hz hy ⟨sz, acc, eR, pa⟩
      obtain ⟨p, e, rfl, ee, hp⟩ := tr.get hy
      have hi := (List.getElem?_eq_some_iff.mp ee).1
      refine ⟨rfl, iteT (B := True) ⟨.ref p, rfl, 2, rfl, p, _, rfl, SqT.of (sz _ _ (s3 _ _ hp)), (by show ¬(HT.sIx 3 0 none = 0 ∧ HT.sIx 3 3 (some 2) = 3); decide), fun q nq => ?_⟩⟩
      rw [show (some (2 : Int)) = some ((2 : Nat) : Int) from rfl, cutv_to]
      have sq := same_new (o := .tup [.int e.1, .int e.2.1]) nq
      have la := pa.length
      rw [List.length_map, List.length_take] at la
      have nqR : q ≠ R := fun z => by rw [z, eR] at nq; cases nq
      refine ⟨acc, sq _ _ eR, small3 (by omega), same_again nR (sz.trans sq), acc ++ [.ref q], upd_same, ?_⟩
      rw [show es.take (i + 1) = es.take i ++ [e] by rw [List.take_add_one, ee]; rfl, List.map_append]
      exact PairsAt.append (pairs_upd (sq _ _ eR) (pa.same sq)) ⟨⟨q, rfl, by rw [upd_ne nqR]; exact upd_same⟩, trivial⟩
    rintro H4 ⟨s4, acc, eR, pa⟩
    rw [ll, List.take_length] at pa
    have c4 : Ch f H H4 := Ch.of_same (s3.trans s4)
    have fe4 := fe.same (s3.trans s4)
    have smr : SmP (es.map rgE) := fun r hr => by
      obtain ⟨e, he, rfl⟩ := List.mem_map.mp hr
      exact ⟨(sml e he).1, (sml e he).2.1⟩
    clear s1 s2 s3 s4 nR
    refine ⟨.ref f, rfl, f, 8, rfl, by decide, by decide, fe4, fun H5 n c5 fe5 n0 n8 => ?_⟩
    refine ⟨n, rfl, by omega, by omega, for_range (lo := 0) (n := n.toNat) (fun i σ Hz => Ch f H Hz ∧ FeedAt Hz f ∧ ∃ acc rs, Hz R = some (.lst acc) ∧ PairsAt Hz acc rs ∧ rs.length = es.length + i ∧ SmP rs ∧ ∃ r5 r6 r7 r8 r9 r10 r11 : Option V, σ = [some (.ref f), some (.ref x), some (.ref c), some (.str (NX.txt es)), some (.ref R), r5, r6, r7, r8, r9, r10, r11]) ⟨c4.trans c5, fe5, acc, _, c5 _ _ nRf eR, pairs_ch c5 fe4 pa, by rw [List.length_map]; rfl, smr, _, _, _, _, _, _, _, rfl⟩ ?_ ?_⟩
    · clear eR pa smr c4 fe4 c5 fe5 acc
      rintro i σ Hz hi ⟨cz, fz, acc, rs, eR, pa, lr, smr, r5, r6, r7, r8, r9, r10, r11, rfl⟩
      refine ⟨.ref R, rfl, .inl ⟨rfl, _, SqL.of eR⟩, .ref f, rfl, f, 12, rfl, by decide, by decide, fz, fun H6 p lo hi c6 fe6 np hp lt l0 hm => ?_⟩
      have la := pa.length
      have eR6 := c6 _ _ nRf eR
      have npR : p ≠ R := fun z => by rw [z, eR] at np; cases np
      refine ⟨R, acc, _, rfl, rfl, eR6, small3 (by omega), ?_⟩
      refine ⟨Ch.again nR0 (cz.trans c6), fe6.upd nRf, acc ++ [.ref p], rs ++ [(lo, hi)], upd_same, PairsAt.append (pairs_upd eR6 (pairs_ch c6 fz pa)) ⟨⟨p, rfl, by rw [upd_ne npR]; exact hp⟩, trivial⟩, by rw [List.length_append]; show rs.length + 1 = _; omega, fun r hr => ?_, _, _, _, _, _, _, _, rfl⟩
      rcases List.mem_append.mp hr with z | z
      · exact smr r z
      · rw [List.mem_singleton.mp z]
        exact ⟨by show lo.natAbs < _; omega, by show hi.natAbs < _; omega⟩
    clear eR pa smr c4 fe4 c5 fe5 acc
    rintro σ H7 ⟨c7, fe7, acc, rs, eR, pa, lr, smr, r5, r6, r7, r8, r9, r10, r11, rfl⟩
    have lrs : rs.length ≤ 70 := by omega
    have la := pa.length
    have hfl := fe_lst fe
    have tab7 := tab.ch c7 hfl
    have tr7 := tr.ch c7 hfl
    have trt7 := trt.ch c7 hfl
    have hc7 := c7 _ _ ncf hc
    have hx7 : H7 x = some (.ins C dx [("entries", .ref t)]) := c7 _ _ (fun z => by obtain ⟨_, a⟩ := hfl; rw [z, a] at hx; cases hx) hx
    have ht7 : H7 t = some (.tup ys) := ch_tup c7 fe ht
    clear tab tr trt hc hx ht
    -- for low, high in ranges
    refine ⟨.ref R, rfl, R, rfl, ⟨_, SqL.of eR⟩, for_list (K := K) (a := R) (xs := acc) (fun i σ Hz => Same H7 Hz ∧ ∃ r5 r6 r7 r8 r9 r10 r11 : Option V, σ = [some (.ref f), some (.ref x), some (.ref c), some (.str (NX.txt es)), some (.ref R), r5, r6, r7, r8, r9, r10, r11]) ⟨Same.refl _, _, _, _, _, _, _, _, rfl⟩ (fun i σ Hz _ z => SqL.of (z.1 _ _ eR)) ?_ ?_⟩
    · rintro i y σ Hz hy ⟨sz, r5, r6, r7, r8, r9, r10, r11, rfl⟩
      obtain ⟨p, r, rfl, er, hp⟩ := XT.pairs_get pa hy
      refine ⟨p, _, rfl, SqT.of (sz _ _ hp), rfl, .int r.1, [.int r.2], rfl, .int r.2, [], rfl, rfl, ?_⟩
      refine ⟨.ref x, rfl, x, dx, _, rfl, sz _ _ hx7, rfl, .int r.1, rfl, .int r.2, rfl, x, es, r.1, r.2, rfl, tab7.same sz, by omega, fun H8 s8 => ?_⟩
      have s9 := sz.trans s8
      refine ⟨_, rfl, WN.ti_log (amt_sm va _ _), .ref c, rfl, .int r.1, rfl, .int r.2, rfl, c, xs, es, r.1, r.2, rfl, SqL.of (s9 _ _ hc7), tr7.same s9, gd, _, rfl, WN.ti_log (amt_sm va _ _), rfl, _, rfl, ?_⟩
      rw [decide_eq_true rfl]
      exact iteF ⟨s9, _, _, _, _, _, _, _, rfl⟩
    rintro σ H8 ⟨s8, r5, r6, r7, r8, r9, r10, r11, rfl⟩
    -- for some in ..
    have eR8 := s8 _ _ eR
    have pa8 := pa.same s8
    refine ⟨.ref R, rfl, .ref R, rfl, .ref R, rfl, R, R, acc, acc, rfl, rfl, eR8, eR8, Nat.le_trans (show _ ≤ 3000 by omega) (by decide), fun b nb => ⟨b, _, rfl, .inl ⟨SqL.of upd_same, fun t2 nt2 => ⟨Nat.zero_le _, fun z nz => ?_⟩⟩⟩⟩
    have sb := same_new (o := .lst (acc ++ acc)) nb
    have st2 := same_new (o := .tup (acc ++ acc)) nt2
    have sz := same_new (o := .lst []) nz
    have sA := sb.trans (st2.trans sz)
    have et2 := sz _ _ (upd_same (a := t2) (o := .tup (acc ++ acc)))
    have ez := upd_same (H := upd (upd H8 b (.lst (acc ++ acc))) t2 (.tup (acc ++ acc))) (a := z) (o := .lst [])
    generalize upd (upd (upd H8 b (.lst (acc ++ acc))) t2 (.tup (acc ++ acc))) z (.lst []) = H9 at sA et2 ez ⊢
    refine ⟨.ref R, rfl, 1, rfl, -1, rfl, rfl, R, _, rfl, SqL.of (sA _ _ eR8), fun q nq => ⟨by show 4 ≤ sizeLine; decide, fun w4 nw4 => ?_⟩⟩
    have sq := same_new (o := .lst acc.reverse) nq
    have sw := same_new (o := .tup [.ref R, .ref t2, .ref z, .ref q]) nw4
    have eq9 := sw _ _ (upd_same (a := q) (o := .lst acc.reverse))
    have ew := upd_same (H := upd H9 q (.lst acc.reverse)) (a := w4) (o := .tup [.ref R, .ref t2, .ref z, .ref q])
    have sB := sq.trans sw
    have s10 := s8.trans (sA.trans sB)
    have et3 := sB _ _ et2
    have ez3 := sB _ _ ez
    generalize upd (upd H9 q (.lst acc.reverse)) w4 (.tup [.ref R, .ref t2, .ref z, .ref q]) = H10 at eq9 ew s10 et3 ez3 ⊢
    clear sb st2 sz sA et2 ez sq sw sB nb nt2 nz nq nw4 s8 eR8 pa8
    have pa10 := pa.same s10
    have items : ∀ y ∈ [V.ref R, .ref t2, .ref z, .ref q], ∃ a xs' rs', y = .ref a ∧ Sq K H10 a xs' ∧ PairsAt H10 xs' rs' ∧ rs'.length ≤ 150 ∧ SmP rs' := fun y hy => by
      simp only [List.mem_cons, List.not_mem_nil, or_false] at hy
      rcases hy with rfl | rfl | rfl | rfl
      · exact ⟨R, acc, rs, rfl, .inl (SqL.of (s10 _ _ eR)), pa10, by omega, smr⟩
      · exact ⟨t2, acc ++ acc, rs ++ rs, rfl, .inr (SqT.of et3), pa10.append pa10, by rw [List.length_append]; omega, fun r hr => (List.mem_append.mp hr).elim (smr r) (smr r)⟩
      · exact ⟨z, [], [], rfl, .inl (SqL.of ez3), trivial, Nat.zero_le _, fun r hr => (List.not_mem_nil hr).elim⟩
      · exact ⟨q, acc.reverse, rs.reverse, rfl, .inl (SqL.of eq9), PairsAt.rev2 pa10, by rw [List.length_reverse]; omega, fun r hr => smr r (List.mem_reverse.mp hr)⟩
    refine ⟨w4, rfl, ⟨_, SqT.of ew⟩, for_tup (K := K) (a := w4) (xs := [.ref R, .ref t2, .ref z, .ref q]) (fun i σ Hz => Same H10 Hz ∧ ∃ r5 r6 r7 r8 r9 r10 r11 : Option V, σ = [some (.ref f), some (.ref x), some (.ref c), some (.str (NX.txt es)), some (.ref R), r5, r6, r7, r8, r9, r10, r11]) ⟨Same.refl _, _, _, _, _, _, _, _, rfl⟩ (fun i σ Hz _ k => SqT.of (k.1 _ _ ew)) ?_ ?_⟩
    · rintro i y σ Hz hy ⟨sz, r5, r6, r7, r8, r9, r10, r11, rfl⟩
      obtain ⟨a, xs', rs', rfl, sqa, pa', lr', sm'⟩ := items y (List.mem_of_getElem? hy)
      obtain ⟨d, nd, hd⟩ := sq_dp sqa pa' sm' (by omega)
      have s0 := s10.trans sz
      refine ⟨.ref a, rfl, a, d, rfl, hd _ sz, nd, ?_⟩
      refine ⟨.ref x, rfl, x, dx, _, rfl, s0 _ _ hx7, rfl, .ref a, rfl, tw_of (tab7.same s0) (by omega) (sqa.same sz) (pa'.same sz) (by omega) fun H11 s11 => ?_⟩
      have s1 := s0.trans s11
      refine ⟨_, rfl, WN.ti_log (wear_sm va (by omega)), .ref c, rfl, .ref a, rfl, c, a, xs, xs', es, rs', rfl, SqL.of (s1 _ _ hc7), tr7.same s1, gd, sqa.same (sz.trans s11), pa'.same (sz.trans s11), by omega, fun H12 s12 => ⟨_, rfl, WN.ti_log (wear_sm va (by omega)), rfl, _, rfl, ?_⟩⟩
      rw [decide_eq_true rfl]
      refine iteF ⟨.ref a, rfl, a, d, rfl, hd _ (sz.trans (s11.trans s12)), nd, .str d.shown, rfl, rfl, _, rfl, ?_⟩
      rw [decide_eq_true rfl]
      exact iteF ⟨sz.trans (s11.trans s12), _, _, _, _, _, _, _, rfl⟩
    rintro σ H11 ⟨s11, r5, r6, r7, r8, r9, r10, r11, rfl⟩
    have sC := s10.trans s11
    clear items pa10 ew eq9 et3 ez3
    -- amount of all
    refine ⟨.ref x, rfl, x, dx, _, rfl, sC _ _ hx7, rfl, 10, 9, rfl, rfl, ⟨by decide, by decide, by decide⟩, _, rfl, 10, 9, rfl, rfl, ⟨by decide, by decide, by decide⟩, x, es, _, _, rfl, tab7.same sC, by omega, fun H12 s12 => ?_⟩
    refine ⟨by show 1 ≤ sizeLine; decide, fun l nl => ?_⟩
    have sl := same_new (o := .lst [.int 0]) nl
    have el := upd_same (H := H12) (a := l) (o := .lst [.int 0])
    have sD := sC.trans (s12.trans sl)
    generalize upd H12 l (.lst [.int 0]) = H13 at el sD ⊢
    refine ⟨.ref c, rfl, c, rfl, ⟨_, SqL.of (sD _ _ hc7)⟩, fun D3 nD3 => ?_⟩
    refine lc_list (K := K) (a := c) (xs := xs) (fun i Hz => Same H13 Hz ∧ Hz D3 = some (.lst (((es.take i).map fun e => e.2.2).map V.int))) ⟨same_new nD3, upd_same⟩ (fun i Hz _ z => SqL.of (z.1 _ _ (sD _ _ hc7))) ?_ ?_
    · rintro i y Hz hy ⟨sz, eD⟩
      obtain ⟨p, e, rfl, ee, hp⟩ := tr7.get hy
      have hi := (List.getElem?_eq_some_iff.mp ee).1
      refine ⟨rfl, iteT (B := True) ⟨.ref p, rfl, p, _, 2, .int e.2.2, rfl, rfl, SqT.of (sz _ _ (sD _ _ hp)), at_of (j := 2) rfl rfl, _, eD, ?_, same_again nD3 sz, ?_⟩⟩
      · rw [List.length_map, List.length_map, List.length_take]; exact small3 (by omega)
      · rw [upd_same, List.take_add_one, ee, List.map_append, List.map_append]; rfl
    rintro H14 ⟨s14, eD⟩
    rw [ll, List.take_length] at eD
    refine ⟨l, D3, _, _, rfl, rfl, s14 _ _ el, eD, ?_, fun m nm => ⟨m, 0 :: es.map (fun e => e.2.2), rfl, .inl (SqL.of upd_same), Nat.succ_pos _, fun mx hmx hall => ⟨rfl, _, rfl, ?_⟩⟩⟩
    · rw [List.length_map, List.length_map]; exact Nat.le_trans (show 1 + es.length ≤ 3000 by omega) (by decide)
    rw [decide_eq_true (show V.int (amt es (-(10 ^ (9 : Int).toNat)) (10 ^ (9 : Int).toNat)) = V.int mx from congrArg V.int (amt_all va hmx hall))]
    have sE := sD.trans (s14.trans (same_new (o := .lst ([V.int 0] ++ (es.map fun e => e.2.2).map V.int)) nm))
    generalize upd H14 m (.lst ([V.int 0] ++ (es.map fun e => e.2.2).map V.int)) = H15 at sE ⊢
    refine iteF ?_
    refine ⟨.ref x, rfl, x, C, dx, _, .ref t, rfl, sE _ _ hx7, tbl.cl, tbl.nE, rfl, t, .tuple (dTrips es), rfl, .tup (SqT.of (sE _ _ ht7)) (dp_trips (trt7.same sE)), nice_tt sml (by omega), .ref c, rfl, c, xs, rfl, .inl ⟨SqL.of (sE _ _ hc7), fun u nu => ?_⟩⟩
    have su := same_new (o := .tup xs) nu
    have sF := sE.trans su
    refine ⟨u, .tuple (dTrips es), rfl, .tup (SqT.of upd_same) (dp_trips (tr7.same sF)), nice_tt sml (by omega), rfl, _, rfl, ?_⟩
    rw [decide_eq_true rfl]
    generalize upd H15 u (.tup xs) = H16 at sF ⊢
    refine iteT ⟨.ref x, rfl, x, dx, _, rfl, sF _ _ hx7, x, es, rfl, tab7.same sF, by omega, sml, fun H17 s17 => ⟨_, rfl, .str (NX.txt es), rfl, rfl, _, rfl, ?_⟩⟩
    rw [decide_eq_true (show V.str (H8T.ttx es) = V.str (NX.txt es) by rw [H8T.ttx_txt])]
    have sG := sF.trans s17
    refine iteT ⟨.ref x, rfl, .ref c, rfl, ?_⟩
    refine mk_tab (Q := fun y H2 => GN.rOwn C (spEQ C) E0 false (V.ref x) y H2 Q) (.inl (SqL.of (sG _ _ hc7))) (tr7.same sG) (by omega) fun H18 y s18 ny tab2 => ?_
    have sH := sG.trans s18
    obtain ⟨dy, t', zs, hy, _⟩ := id tab2
    refine ⟨x, y, dx, dy, _, _, rfl, rfl, sH _ _ hx7, hy, x, y, es, es, rfl, tab7.same sH, tab2, by omega, by omega, _, rfl, ?_⟩
    rw [decide_eq_true rfl]
    exact hq _ (c7.trans (Ch.of_same sH)) (fe7.same sH)
end
end Z5R

/-! a call of a def that wants to know that no repr is under way -/
namespace GK
open PySem PySem.Spec PyProof.Rows L2 KW
section
variable {X : Cx} {k : Nat} {f : Addr} {fd : FuncData} {ps : List Str} {sp : Sp} {dvs : List V} {ds : List Value} {E : XK} {x : Str} {p pos : Pos} {e : Expr} {es : List Expr} {t : TA}
theorem pe_callG (F : Kept X.prog X.w X.K X.mg X.base k f fd ps sp) (hgd : X.A.guards = some []) (len : ∀ vs H Q E, sp vs H Q E → vs.length = ps.length) (hr : Room k X.A) (hg : Gl X x) (hm : X.mg x = some (.ref f)) (hk : PySem.W.keepIn X.K (.ref f) = true) (hb : Binds X.K fd ps ds) (hd : Vals dvs ds) (hx : Passes CX0 X E)
    (ha : PA X (e :: es) t) (hdb : (x == ("__debug__" : Str)) = false := by decide) (he : starEach (e :: es) X.env = (false, eval e X.env) :: starEach es X.env := by rfl) (hpl : (backTo pos (starEach es X.env)).any (·.1) = false := by rfl) :
    PE X (.Call (.Name x p) (e :: es) [] pos) (tCall sp dvs E t) := by
  refine ⟨fun pins s σ H Q I h => ?_⟩
  refine wpAny_Call_Name_kw (ld_glob I hg hm ?_ hdb)
  refine PySem.W.callWith_K (h₀ := X.base) I.ok.mod.kin hk (thn (ha.run pos pins s σ H _ I h) fun us s1 ⟨vs, H1, I1, r, q⟩ => ⟨I1.kIn, ?_⟩) he hpl
  have r2 : Vals (vs ++ dvs) (us ++ ds) := r.append hd
  have hl : (us ++ ds).length = ps.length := by rw [← r2.length]; exact len _ _ _ _ q
  refine wpAny_call (codeAny_mono (F X.A X.stack s1 H1 ⟨us, []⟩ (us ++ ds) (vs ++ dvs) Q E hgd hr I1.env0 (hb s1 us I1.kIn hl) r2 q) fun r s' hq => ?_)
  cases r with
  | error e => exact hx pins σ H1 s1 e s' I1 hq
  | ok fl =>
    cases fl with
    | ret u => exact I1.after hq
    | next => exact False.elim hq
    | brk => exact False.elim hq
    | cont => exact False.elim hq
end
end GK

set_option pp.maxSteps 900
/-! k50's law -/
namespace Z5L
open PySem PySem.Spec PyProof.Rows L2 KA KD PH PM RM K52b XU GML
open XT hiding pairs_get
open NX (Val)
open Z5K hiding sEQ
open Z5R
abbrev sLaw : Stmt := topS 25
theorem scLaw : FnScope ["script", "k", "feed", "made", "many", "turn", "entries", "mine", "some", "table", "one", "other", "same", "thing"] ["script"] (defScope sLaw) := ⟨rfl, rfl, rfl, by decide +kernel, rfl, by decide +kernel, by decide +kernel⟩
/-- what stands in a list of tables -/
def Tabs (C : Addr) (H : Hp) (xs : List V) : Prop := ∀ y ∈ xs, ∃ x T, y = V.ref x ∧ TabAt H C x T ∧ (∀ e ∈ T, Val e) ∧ T.length ≤ 61
theorem Tabs.ch {C f : Addr} {H H' : Hp} {xs : List V} (h : Tabs C H xs) (c : Ch f H H') (fe : ∃ acc, H f = some (.lst acc)) : Tabs C H' xs := fun y hy => by
  obtain ⟨x, T, e, t, v, l⟩ := h y hy
  exact ⟨x, T, e, t.ch c fe, v, l⟩
theorem Tabs.same {C : Addr} {H H' : Hp} {xs : List V} (h : Tabs C H xs) (s : Same H H') : Tabs C H' xs := fun y hy => by
  obtain ⟨x, T, e, t, v, l⟩ := h y hy
  exact ⟨x, T, e, t.same s, v, l⟩
theorem trips_drop {H : Hp} : ∀ {xs : List V} {es : List Ent}, TripsAt H xs es → TripsAt H (xs.drop 1) (es.drop 1)
  | [], [], _ => trivial
  | _ :: _, _ :: _, h => h.2
  | [], _ :: _, h => h.elim
  | _ :: _, [], h => h.elim
theorem mk_tab2 {K : PySem.W.Frag} {C p : Addr} {H : Hp} {xs : List V} {T : List Ent} {R : Hp → Prop} {E : XK} (hp : Sq K H p xs) (tr : TripsAt H xs T) (le : T.length ≤ 500) {x dx : Addr} (nx : H x = none) (ndx : H dx = none) (ne : dx ≠ x) (q : ∀ H', Same H H' → TabAt H' C x T → R H') :
    spTI K C [V.ref x, V.ref p] (upd (upd H dx (HO.own x)) x (HO.ins C dx [])) (fun v H2 => v = V.non ∧ R H2) E := by
  have s2 : Same H (upd (upd H dx (.own x)) x (.ins C dx [])) := (same_new ndx).trans (same_new (by rw [upd_ne ne.symm]; exact nx))
  exact ⟨x, p, dx, xs, T, rfl, upd_same, hp.same s2, tr.same s2, le, fun H' keep tab => ⟨rfl, q H' (fun b o e => keep b o (ne_of_none e nx) (s2 _ _ e)) tab⟩⟩
theorem tab_ins {H : Hp} {C x : Addr} {T : List Ent} (h : TabAt H C x T) : ∃ dx fs, H x = some (.ins C dx fs) := by
  obtain ⟨dx, _, _, h1, _⟩ := h
  exact ⟨dx, _, h1⟩
theorem val_drawn {es : List Ent} (g : Good es) (b : Bnd es) : ∀ e ∈ es, Val e := fun e he => by
  have h1 := g e he
  have h2 := b e he
  exact ⟨by omega, by omega, h1.1, h1.2, h2.2.2⟩
theorem tx_eq {T U : List Ent} (h : ∀ e ∈ T, Val e) (g : ∀ e ∈ U, Val e) : decide (V.str (H8T.ttx T) = V.str (H8T.ttx U)) = decide (T = U) := by
  rw [H8T.ttx_txt, H8T.ttx_txt]
  congr 1
  apply propext
  constructor
  · intro z; exact NX.txt_inj h g (V.str.inj z)
  · intro z; rw [z]
structure Txt (K : PySem.W.Frag) (mg : Str → Option Value) (fNU fRD fNM fRO fEO fFE fTA fPI fIV fEN fAM fWE fMY fRT CT fTI pP fPA fUA fUW fEQ fUS : Addr) (dNU dRD dNM dRO dEO dFE dTA dPI dIV dEN dAM dWE dMY dRT dTI dPA dUA dUW dEQ dUS : FuncData) : Prop where
  FNU : Fun K "is_number" "is_number" sNU fNU dNU
  gNU : mg "is_number" = some (.ref fNU)
  kNU : PySem.W.keepIn K (.ref fNU) = true
  bNU : Binds K dNU ["value"] []
  FRD : Fun K "is_reading" "is_reading" sRD fRD dRD
  gRD : mg "is_reading" = some (.ref fRD)
  kRD : PySem.W.keepIn K (.ref fRD) = true
  bRD : Binds K dRD ["value"] []
  FNM : Fun K "is_numeral" "is_numeral" sNM fNM dNM
  gNM : mg "is_numeral" = some (.ref fNM)
  kNM : PySem.W.keepIn K (.ref fNM) = true
  bNM : Binds K dNM ["word"] []
  FRO : Fun K "reading_of" "reading_of" sRO fRO dRO
  gRO : mg "reading_of" = some (.ref fRO)
  kRO : PySem.W.keepIn K (.ref fRO) = true
  bRO : Binds K dRO ["word"] []
  FEO : Fun K "entry_of" "entry_of" sEO fEO dEO
  gEO : mg "entry_of" = some (.ref fEO)
  kEO : PySem.W.keepIn K (.ref fEO) = true
  bEO : Binds K dEO ["words"] []
  FFE : Fun K "_law_feed" "_law_feed" sFeed fFE dFE
  gFE : mg "_law_feed" = some (.ref fFE)
  kFE : PySem.W.keepIn K (.ref fFE) = true
  bFE : Binds K dFE ["script", "k"] []
  FTA : Fun K "_law_take" "_law_take" sTake fTA dTA
  gTA : mg "_law_take" = some (.ref fTA)
  kTA : PySem.W.keepIn K (.ref fTA) = true
  bTA : Binds K dTA ["feed", "many"] []
  FPI : Fun K "_law_pick" "_law_pick" sPick fPI dPI
  gPI : mg "_law_pick" = some (.ref fPI)
  kPI : PySem.W.keepIn K (.ref fPI) = true
  bPI : Binds K dPI ["feed", "some"] []
  FIV : Fun K "_law_interval" "_law_interval" sIv fIV dIV
  gIV : mg "_law_interval" = some (.ref fIV)
  kIV : PySem.W.keepIn K (.ref fIV) = true
  bIV : Binds K dIV ["feed", "most"] []
  FEN : Fun K "_law_entries" "_law_entries" sEn fEN dEN
  gEN : mg "_law_entries" = some (.ref fEN)
  kEN : PySem.W.keepIn K (.ref fEN) = true
  bEN : Binds K dEN ["feed", "most"] []
  FAM : Fun K "_law_amount" "_law_amount" H8V.sAm fAM dAM
  gAM : mg "_law_amount" = some (.ref fAM)
  kAM : PySem.W.keepIn K (.ref fAM) = true
  bAM : Binds K dAM ["entries", "low", "high"] []
  FWE : Fun K "_law_wear" "_law_wear" H8V.sWe fWE dWE
  gWE : mg "_law_wear" = some (.ref fWE)
  kWE : PySem.W.keepIn K (.ref fWE) = true
  bWE : Binds K dWE ["entries", "ranges"] []
  FMY : Fun K "_law_many" "_law_many" sMY fMY dMY
  gMY : mg "_law_many" = some (.ref fMY)
  kMY : PySem.W.keepIn K (.ref fMY) = true
  bMY : Binds K dMY ["feed"] []
  FRT : Fun K "_law_right" "_law_right" sRT fRT dRT
  gRT : mg "_law_right" = some (.ref fRT)
  kRT : PySem.W.keepIn K (.ref fRT) = true
  bRT : Binds K dRT ["feed", "table", "entries"] []
  gCT : mg "Table" = some (.ref CT)
  tbl : Tbl K CT
  mkT : Mk K CT fTI
  FTI : Fun K "__init__" "Table.__init__" sTI fTI dTI
  bTI : Binds K dTI ["self", "entries"] []
  rd : ClX.CRead K CT (.type "type")
  cm : ClX.CMet K CT (.type "type") "parse" pP fPA
  FPA : Fun K "parse" "Table.parse" sPA fPA dPA
  bPA : Binds K dPA ["cls", "text"] []
  mUA : Meth K CT "amount" fUA
  FUA : Fun K "amount" "Table.amount" sTA fUA dUA
  bUA : Binds K dUA ["self", "low", "high"] []
  mUW : Meth K CT "wear" fUW
  FUW : Fun K "wear" "Table.wear" sTW fUW dUW
  bUW : Binds K dUW ["self", "ranges"] []
  insEQ : C8.InsC K CT
  fnEQ : PySem.W.findIn K (.ref CT) "__eq__" = some (some (.ref fEQ))
  iEQ : PySem.W.isFn K (.ref fEQ) = true
  mOEQ : PySem.W.mroIn K CT (.type "object") = some true
  neEQ : PySem.W.findIn K (.ref CT) "__ne__" = some (some (.builtin "object.__ne__"))
  FEQ : Fun K "__eq__" "Table.__eq__" Z5K.sEQ fEQ dEQ
  bEQ : Binds K dEQ ["self", "other"] []
  fnUS : PySem.W.findIn K (.ref CT) "__str__" = some (some (.ref fUS))
  iUS : PySem.W.isFn K (.ref fUS) = true
  FUS : Fun K "__str__" "Table.__str__" H8T.sTS fUS dUS
  bUS : Binds K dUS ["self"] []
  nftuple : PySem.W.subIn K (.type "tuple") (.ref CT) = some false
  nfNoneType : PySem.W.subIn K (.type "NoneType") (.ref CT) = some false
  nfstr : PySem.W.subIn K (.type "str") (.ref CT) = some false
  nfint : PySem.W.subIn K (.type "int") (.ref CT) = some false
  nflist : PySem.W.subIn K (.type "list") (.ref CT) = some false
  kotuple : PySem.W.kitOne K (.type "tuple") (.ref CT) = some false
  koNoneType : PySem.W.kitOne K (.type "NoneType") (.ref CT) = some false
  kostr : PySem.W.kitOne K (.type "str") (.ref CT) = some false
  koint : PySem.W.kitOne K (.type "int") (.ref CT) = some false
  kolist : PySem.W.kitOne K (.type "list") (.ref CT) = some false
  gLIM : ∃ u, mg "LIMIT" = some u ∧ RelV (.int 1000000000) u
  gLON : ∃ u, mg "LONGEST" = some u ∧ RelV (.int 11) u
  gGRE : ∃ u, mg "GREATEST" = some u ∧ RelV (.int 1000000) u
  len : mg "len" = none
  max : mg "max" = none
  min : mg "min" = none
  abs : mg "abs" = none
  range : mg "range" = none
  tuple : mg "tuple" = none
  list : mg "list" = none
  int : mg "int" = none
  bool : mg "bool" = none
  isinstance : mg "isinstance" = none
  repr : mg "repr" = none
  str : mg "str" = none
  sum : mg "sum" = none
section
variable {P : Program} {w : World} {K : PySem.W.Frag} {mg : Str → Option Value} {base : Heap} {fNU fRD fNM fRO fEO fFE fTA fPI fIV fEN fAM fWE fMY fRT CT fTI pP fPA fUA fUW fEQ fUS : Addr} {dNU dRD dNM dRO dEO dFE dTA dPI dIV dEN dAM dWE dMY dRT dTI dPA dUA dUW dEQ dUS : FuncData}
def spLaw (K : PySem.W.Frag) : Sp := fun vs H Q _ => ∃ (a : Addr) (ns : List Int), vs = [.ref a] ∧ SqL K H a (ns.map V.int) ∧ ns.length ≤ 63 ∧ ∀ H', Q (.bl true) H'
theorem len_law {K : PySem.W.Frag} : ∀ vs H Q E, (spLaw K) vs H Q E → vs.length = (["script"] : List Str).length := fun vs H Q E h => by
  obtain ⟨a, ns, rfl, _⟩ := h
  rfl
theorem ok_law {f0 : Addr} {fd : FuncData} (F : Fun K "law" "law" sLaw f0 fd) (T : Txt K mg fNU fRD fNM fRO fEO fFE fTA fPI fIV fEN fAM fWE fMY fRT CT fTI pP fPA fUA fUW fEQ fUS dNU dRD dNM dRO dEO dFE dTA dPI dIV dEN dAM dWE dMY dRT dTI dPA dUA dUW dEQ dUS) : KW.Kept P w K mg base 9 f0 fd ["script"] (spLaw K) := by
  have GNU : FnOk P w K mg base CX0 1 fNU dNU ["value"] spNU := ok_NU T.FNU T.isinstance T.int T.bool
  have GRD : FnOk P w K mg base CX0 2 fRD dRD ["value"] spRD := ok_RD T.FRD GNU T.gNU T.kNU T.bNU T.abs T.gLIM
  have GNM : FnOk P w K mg base CX0 1 fNM dNM ["word"] spNM := ok_NM T.FNM
  have GRO : FnOk P w K mg base CX0 3 fRO dRO ["word"] spRO := ok_RO T.FRO GRD T.gRD T.kRD T.bRD GNM T.gNM T.kNM T.bNM T.len T.int T.gLON
  have GEO : FnOk P w K mg base CX0 4 fEO dEO ["words"] spEO := ok_EO T.FEO GRO T.gRO T.kRO T.bRO T.len T.gGRE
  have GTI : FnOk P w K mg base CX0 1 fTI dTI ["self", "entries"] (spTI K CT) := ok_TI T.FTI T.tbl T.tuple
  have GPA : FnOk P w K mg base CX0 5 fPA dPA ["cls", "text"] (spPA CT) := ok_PA T.FPA GEO T.gEO T.kEO T.bEO T.mkT GTI T.bTI
  have GUA : FnOk P w K mg base CX0 2 fUA dUA ["self", "low", "high"] (spTA CT) := ok_TA T.FUA T.tbl T.max
  have GUW : FnOk P w K mg base CX0 3 fUW dUW ["self", "ranges"] (fun vs H Q E => spTWl K CT vs H Q E ∨ spTWt K CT vs H Q E) := both (ok_TWl T.FUW T.tbl T.mUA GUA T.bUA T.sum) (ok_TWt T.FUW T.tbl T.mUA GUA T.bUA T.sum)
  have GUS : FnOk P w K mg base CX0 1 fUS dUS ["self"] (H8T.spTS CT) := H8T.ok_TS T.FUS T.tbl
  have GEQ : FnOk P w K mg base CX0 1 fEQ dEQ ["self", "other"] (spEQ CT) := ok_EQ T.FEQ T.tbl T.insEQ T.gCT T.isinstance
  have GEQo : FnOk P w K mg base CX0 1 fEQ dEQ ["self", "other"] (spEQo K CT) := ok_EQo T.FEQ T.gCT T.isinstance
  have GTA : FnOk P w K mg base CX0 1 fTA dTA ["feed", "many"] spTake := ok_take T.FTA
  have GFE : FnOk P w K mg base CX0 1 fFE dFE ["script", "k"] (spFeed K) := ok_feed T.FFE T.len T.max T.abs
  have GPI : FnOk P w K mg base CX0 2 fPI dPI ["feed", "some"] (spPick K) := ok_pick T.FPI T.FTA T.gTA T.bTA T.len
  have GIV : FnOk P w K mg base CX0 2 fIV dIV ["feed", "most"] spIv := ok_iv T.FIV GTA T.gTA T.kTA T.bTA
  have GEN : FnOk P w K mg base CX0 3 fEN dEN ["feed", "most"] (spEn K) := ok_en T.FEN GTA T.gTA T.kTA T.bTA GIV T.gIV T.kIV T.bIV GPI T.gPI T.kPI T.bPI T.range
  have GAM : FnOk P w K mg base CX0 1 fAM dAM ["entries", "low", "high"] (H8V.spAm K) := H8V.ok_am T.FAM
  have GWE : FnOk P w K mg base CX0 2 fWE dWE ["entries", "ranges"] (H8V.spWe K) := H8V.ok_we T.FWE GAM T.gAM T.kAM T.bAM T.sum
  have GMY : FnOk P w K mg base CX0 3 fMY dMY ["feed"] spMY := ok_MY T.FMY GTA T.gTA T.kTA T.bTA GPI T.gPI T.kPI T.bPI GIV T.gIV T.kIV T.bIV T.range
  have GRT : KW.Kept P w K mg base 6 fRT dRT ["feed", "table", "entries"] (spRT CT) := ok_RT T.FRT GTA T.gTA T.kTA T.bTA GIV T.gIV T.kIV T.bIV GAM T.gAM T.kAM T.bAM GWE T.gWE T.kWE T.bWE T.gCT T.tbl T.insEQ T.mkT GTI T.bTI T.mUA GUA T.bUA T.mUW GUW T.bUW T.fnUS T.iUS GUS T.bUS T.fnEQ T.iEQ GEQ T.bEQ T.range T.repr T.str T.tuple T.isinstance T.max
  have GNU := GNU.mono (show 1 ≤ 8 by decide)
  have GRD := GRD.mono (show 2 ≤ 8 by decide)
  have GNM := GNM.mono (show 1 ≤ 8 by decide)
  have GRO := GRO.mono (show 3 ≤ 8 by decide)
  have GEO := GEO.mono (show 4 ≤ 8 by decide)
  have GTI := GTI.mono (show 1 ≤ 7 by decide)
  have GPA := GPA.mono (show 5 ≤ 8 by decide)
  have GUA := GUA.mono (show 2 ≤ 8 by decide)
  have GUW := GUW.mono (show 3 ≤ 8 by decide)
  have GUS := GUS.mono (show 1 ≤ 6 by decide)
  have GEQ := GEQ.mono (show 1 ≤ 8 by decide)
  have GEQo := GEQo.mono (show 1 ≤ 8 by decide)
  have GTA := GTA.mono (show 1 ≤ 8 by decide)
  have GFE := GFE.mono (show 1 ≤ 8 by decide)
  have GPI := GPI.mono (show 2 ≤ 8 by decide)
  have GIV := GIV.mono (show 2 ≤ 8 by decide)
  have GEN := GEN.mono (show 3 ≤ 8 by decide)
  have GAM := GAM.mono (show 1 ≤ 8 by decide)
  have GWE := GWE.mono (show 2 ≤ 8 by decide)
  have GMY := GMY.mono (show 3 ≤ 8 by decide)
  have GEQ1 : FnOk P w K mg base CX0 7 fEQ dEQ ["self", "other"] (spEQ CT) := (ok_EQ (k := 0) T.FEQ T.tbl T.insEQ T.gCT T.isinstance).mono (show 1 ≤ 7 by decide)
  have GEQo1 : FnOk P w K mg base CX0 7 fEQ dEQ ["self", "other"] (spEQo K CT) := (ok_EQo (k := 0) T.FEQ T.gCT T.isinstance).mono (show 1 ≤ 7 by decide)
  refine KW.kept_of F scLaw len_law (fun cdv A outer s H vs Q E hgA hr h => ?_)
  · obtain ⟨a, ns, rfl, hS, hlen, q⟩ := h
    have hg : (A.deeper (envOfC "law" (defScope sLaw) s.heap.objs.size f0 cdv)).guards = some [] := hgA
    have hu : (A.deeper (envOfC "law" (defScope sLaw) s.heap.objs.size f0 cdv)).units + 100 < cLine := by have := hr.un; omega
    refine ⟨_, (pss_cons (ps_for PassesOwn.never rfl (pi_range1 rfl T.range (pa_cons (pe_callB (call_max2 rfl) (by rfl) T.max (by decide +kernel) (pa_cons pe_int (pa_cons (pe_callB (call_min2 rfl) (by rfl) T.min (by decide +kernel) (pa_cons pe_int (pa_cons (pe_callB call_len_seq (by rfl) T.len PySem.boot_len (pa_cons (pv 0) pa_nil)) pa_nil))) pa_nil))) pa_nil)) (pg_name (i := 1) scLaw.nd rfl (.inl rfl))
      (pss_cons (ps_set (i := 2) scLaw.nd rfl (.inl rfl) (pe_call GFE hr (by rfl) T.gFE T.kFE T.bFE .nil pass0 (pa_cons (pv 0) (pa_cons (pv 1) pa_nil))))
      (pss_cons (ps_par (i := 3) (j := 4) (by rfl) scLaw.nd rfl rfl (by decide) rfl rfl (pa_cons (pe_lst pa_nil) (pa_cons (pe_call GMY hr (by rfl) T.gMY T.kMY T.bMY .nil pass0 (pa_cons (pv 2) pa_nil)) pa_nil)) (by rfl))
      (pss_cons (ps_if (PW.pt (pw_or (pt_not (pt_val (GK.pe_callG GRT hg len_rt (hr.mono (by decide)) (by rfl) T.gRT T.kRT T.bRT .nil pass0 (pa_cons (pv 2) (pa_cons (pe_make T.mkT GTI hr (by rfl) T.gCT T.bTI .nil pass0 (pa_cons (pv 4) pa_nil)) (pa_cons (pv 4) pa_nil)))))) (pw_or1 (pt_cmpR (GN.op_neOwn (GEQ1) hr T.fnEQ T.iEQ T.mOEQ T.neEQ T.bEQ pass0) (ClX.pe_cmeth (pe_glob (v := .ref CT) (by rfl) T.gCT rfl) T.rd T.cm (GPA.raw T.bPA .nil) hr pass0 (pa_cons (pe_callTy (GS.cr_strOwn GUS hr T.fnUS T.iUS T.bUS pass0) (by rfl) T.str (by decide +kernel) (pa_cons (pe_make T.mkT GTI hr (by rfl) T.gCT T.bTI .nil pass0 (pa_cons (pv 4) pa_nil)) pa_nil)) pa_nil)) (pe_make T.mkT GTI hr (by rfl) T.gCT T.bTI .nil pass0 (pa_cons (pv 4) pa_nil)) (nomark _))))) (pss_one (ps_ret pe_bl)) pss_nil)
      (pss_cons (ps_for PassesOwn.never rfl (pi_range1 rfl T.range (pa_cons pe_int pa_nil)) (pg_name (i := 5) scLaw.nd rfl (.inl rfl))
      (pss_cons (ps_set (i := 6) scLaw.nd rfl (.inl rfl) (pe_call GEN hr (by rfl) T.gEN T.kEN T.bEN .nil pass0 (pa_cons (pv 2) (pa_cons pe_int pa_nil))))
      (pss_cons (ps_set (i := 7) scLaw.nd rfl (.inl rfl) (pe_callTy call_list_of (by rfl) T.list (by decide +kernel) (pa_cons (pv 6) pa_nil)))
      (pss_cons (ps_set (i := 8) scLaw.nd rfl (.inl rfl) (pe_lst (pa_cons (pe_make T.mkT GTI hr (by rfl) T.gCT T.bTI .nil pass0 (pa_cons (pv 7) pa_nil)) (pa_cons (pe_make T.mkT GTI hr (by rfl) T.gCT T.bTI .nil pass0 (pa_cons (pe_callTy call_tuple_of (by rfl) T.tuple (by decide +kernel) (pa_cons (pv 6) pa_nil)) pa_nil)) (pa_cons (ClX.pe_cmeth (pe_glob (v := .ref CT) (by rfl) T.gCT rfl) T.rd T.cm (GPA.raw T.bPA .nil) hr pass0 (pa_cons (pe_callTy (GS.cr_strOwn GUS hr T.fnUS T.iUS T.bUS pass0) (by rfl) T.str (by decide +kernel) (pa_cons (pe_make T.mkT GTI hr (by rfl) T.gCT T.bTI .nil pass0 (pa_cons (pv 6) pa_nil)) pa_nil)) pa_nil)) pa_nil)))))
      (pss_cons (ps_expr (pe_bm PySem.F.plainAttrs_list PySem.F.slot_list_append PySem.F.type_list_append mt_append (pv 7) (pa_cons (pe_tup (pa_cons pe_int (pa_cons pe_int (pa_cons pe_int pa_nil)))) pa_nil)))
      (pss_cons (ps_for PassesOwn.never rfl (pi_list (pv 8)) (pg_name (i := 9) scLaw.nd rfl (.inl rfl))
      (pss_one (ps_if (PW.pt (pw_or (pt_not (pt_val (GK.pe_callG GRT hg len_rt (hr.mono (by decide)) (by rfl) T.gRT T.kRT T.bRT .nil pass0 (pa_cons (pv 2) (pa_cons (pv 9) (pa_cons (pv 6) pa_nil)))))) (pw_or1 (pt_cmpR (GN.op_neOwn (GEQ1) hr T.fnEQ T.iEQ T.mOEQ T.neEQ T.bEQ pass0) (pv 9) (pe_ix ix_list (pv 8) pe_int (fun _ _ => rfl)) (nomark _))))) (pss_one (ps_ret pe_bl)) pss_nil)))
      (pss_one (ps_set (i := 3) scLaw.nd rfl (.inl rfl) (pe_op op_cat (pe_op op_cat (pv 3) (pv 8)) (pe_lst (pa_cons (pe_make T.mkT GTI hr (by rfl) T.gCT T.bTI .nil pass0 (pa_cons (GR.pe_back (pv 6) (po_some (pe_un un_neg pe_int))) pa_nil)) (pa_cons (pe_make T.mkT GTI hr (by rfl) T.gCT T.bTI .nil pass0 (pa_cons (pe_slice sl_list (pv 6) (po_some pe_int) po_none) pa_nil)) pa_nil))))))))))))
      (pss_one (ps_for PassesOwn.never rfl (pi_list (pv 3)) (pg_name (i := 10) scLaw.nd rfl (.inl rfl))
      (pss_cons (ps_for PassesOwn.never rfl (pi_list (pv 3)) (pg_name (i := 11) scLaw.nd rfl (.inl rfl))
      (pss_cons (ps_set (i := 12) scLaw.nd rfl (.inl rfl) (pe_cmpR op_eq (pe_callTy (GS.cr_strOwn GUS hr T.fnUS T.iUS T.bUS pass0) (by rfl) T.str (by decide +kernel) (pa_cons (pv 10) pa_nil)) (pe_callTy (GS.cr_strOwn GUS hr T.fnUS T.iUS T.bUS pass0) (by rfl) T.str (by decide +kernel) (pa_cons (pv 11) pa_nil)) (nomark _)))
      (pss_one (ps_if (PW.pt (pw_or (pt_cmpR op_ne (pe_cmpR (GN.op_eqOwn GEQ hr T.fnEQ T.iEQ T.bEQ pass0) (pv 10) (pv 11) (nomark _)) (pv 12) (nomark _)) (pw_or1 (pt_cmpR op_eq (pe_cmpR (GN.op_neOwn (GEQ1) hr T.fnEQ T.iEQ T.mOEQ T.neEQ T.bEQ pass0) (pv 10) (pv 11) (nomark _)) (pv 12) (nomark _))))) (pss_one (ps_ret pe_bl)) pss_nil))))
      (pss_one (ps_for PassesOwn.never rfl (pi_list (pe_lst (pa_cons (pe_fld (pv 10) rfl) (pa_cons (pe_callTy (GS.cr_strOwn GUS hr T.fnUS T.iUS T.bUS pass0) (by rfl) T.str (by decide +kernel) (pa_cons (pv 10) pa_nil)) (pa_cons pe_non (pa_cons pe_int (pa_cons (pe_lst pa_nil) pa_nil))))))) (pg_name (i := 13) scLaw.nd rfl (.inl rfl))
      (pss_one (ps_if (PW.pt (pw_or (pt_cmpR (GS.op_eqOth GEQo hr T.fnEQ T.iEQ T.bEQ pass0) (pv 10) (pv 13) (nomark _)) (pw_or1 (pt_not (pt_cmpR (GS.op_neOth (GEQo1) hr T.fnEQ T.iEQ T.mOEQ T.neEQ T.bEQ pass0) (pv 10) (pv 13) (nomark _)))))) (pss_one (ps_ret pe_bl)) pss_nil))))))))))))
      (pss_one (ps_ret pe_bl))), ?_⟩
    -- for k
    refine ⟨.ref a, rfl, a, ns.map V.int, rfl, .inl hS, 5, ((ns.map V.int).length : Int), rfl, 2, _, rfl, _, rfl, ?_⟩
    generalize hm : (if (if ((ns.map V.int).length : Int) < 5 then ((ns.map V.int).length : Int) else 5) > 2 then (if ((ns.map V.int).length : Int) < 5 then ((ns.map V.int).length : Int) else 5) else 2) = m
    have m0 : 0 ≤ m ∧ m ≤ 5 := by subst hm; split <;> split <;> omega
    refine ⟨by omega, by omega, for_range (lo := 0) (n := m.toNat) (fun i σ H' => Same H H' ∧ ∃ r1 r2 r3 r4 r5 r6 r7 r8 r9 r10 r11 r12 r13 : Option V, σ = [some (.ref a), r1, r2, r3, r4, r5, r6, r7, r8, r9, r10, r11, r12, r13]) ⟨Same.refl H, _, _, _, _, _, _, _, _, _, _, _, _, _, rfl⟩ ?_ (fun σ H' _ => q H')⟩
    rintro i σ H' hi ⟨sm, r1, r2, r3, r4, r5, r6, r7, r8, r9, r10, r11, r12, r13, rfl⟩
    refine ⟨.ref a, rfl, .int (0 + (i : Int)), rfl, a, ns, 0 + (i : Int), rfl, sm.seq hS, by omega, by omega, fun H1 f s1 nf fe => ?_⟩
    have hf0 : H f = none := sm.free nf
    have sm1 := sm.trans s1
    clear sm s1 nf
    -- made, many
    refine ⟨Nat.zero_le _, fun md nmd => ?_⟩
    have nmf : md ≠ f := fe.ne nmd
    have se := same_new (o := .lst []) nmd
    have fe1 := fe.same se
    have sm2 := sm1.trans se
    have emd := upd_same (H := H1) (a := md) (o := .lst [])
    generalize upd H1 md (.lst []) = H2 at fe1 sm2 emd ⊢
    refine ⟨.ref f, rfl, f, rfl, fe1, fun H3 c xs es c3 fe3 nc ncf hc tr va le => ?_⟩
    have sm3 := Ch.old c3 hf0 sm2
    have emd3 := c3 _ _ nmf emd
    clear se fe fe1 sm1 sm2 emd nmd nc c3
    refine ⟨.ref md, .ref c, rfl, ?_⟩
    refine ⟨.ref f, rfl, .ref c, rfl, fun x1 dx1 n1 n2 n3 => mk_tab2 (.inl (SqL.of hc)) tr (by omega) n1 n2 n3 fun H4 s4 tab1 => ?_⟩
    refine ⟨.ref c, rfl, f, x1, c, xs, es, rfl, fe3.same s4, tab1, ncf, s4 _ _ hc, tr.same s4, va, le, fun H5 c5 fe5 => ⟨_, rfl, iteF ?_⟩⟩
    have hfl := fe_lst (fe3.same s4)
    have sm5 := Ch.old c5 hf0 (sm3.trans s4)
    have hc5 := c5 _ _ ncf (s4 _ _ hc)
    have tr5 := (tr.same s4).ch c5 hfl
    have emd5 := c5 _ _ nmf (s4 _ _ emd3)
    clear tab1 hc tr emd3 fe3 c5 s4 sm3 hfl
    refine ⟨rfl, .ref c, rfl, fun x2 dx2 n1 n2 n3 => mk_tab2 (.inl (SqL.of hc5)) tr5 (by omega) n1 n2 n3 fun H6 s6 tab2 => ?_⟩
    obtain ⟨d2, f2, hx2⟩ := tab_ins tab2
    refine ⟨x2, d2, f2, rfl, hx2, x2, es, rfl, tab2, by omega, vsml va, fun H7 s7 => ⟨_, rfl, es, by rw [H8T.ttx_txt]; rfl, va, by omega, fun H8 x3 s8 tab3 => ?_⟩⟩
    have s58 := s6.trans (s7.trans s8)
    refine ⟨.ref c, rfl, fun x4 dx4 n1 n2 n3 => mk_tab2 (.inl (SqL.of (s58 _ _ hc5))) (tr5.same s58) (by omega) n1 n2 n3 fun H9 s9 tab4 => ?_⟩
    have tab3' := tab3.same s9
    obtain ⟨d3, f3, hx3⟩ := tab_ins tab3'
    obtain ⟨d4, f4, hx4⟩ := tab_ins tab4
    refine ⟨x3, x4, d3, d4, _, _, rfl, rfl, hx3, hx4, x3, x4, es, es, rfl, tab3', tab4, by omega, by omega, _, rfl, _, rfl, ?_⟩
    rw [decide_eq_true rfl]
    refine iteF ?_
    have sm9 := sm5.trans (s58.trans s9)
    have fe9 := fe5.same (s58.trans s9)
    have emd9 := (s58.trans s9) _ _ emd5
    clear tab2 tab3 tab3' tab4 hx2 hx3 hx4 s6 s7 s8 s9 s58 hc5 tr5 emd5 fe5 sm5 va le ncf
    -- for turn
    refine ⟨4, rfl, by decide, by decide, for_range (lo := 0) (n := (4 : Int).toNat) (fun i σ Hz => Same H Hz ∧ FeedAt Hz f ∧ ∃ (md : Addr) (zs : List V), md ≠ f ∧ Hz md = some (.lst zs) ∧ zs.length = 5 * i ∧ Tabs CT Hz zs ∧ ∃ r1 r4 r5 r6 r7 r8 r9 r10 r11 r12 r13 : Option V, σ = [some (.ref a), r1, some (.ref f), some (.ref md), r4, r5, r6, r7, r8, r9, r10, r11, r12, r13]) ⟨sm9, fe9, md, [], nmf, emd9, rfl, fun y hy => (List.not_mem_nil hy).elim, _, _, _, _, _, _, _, _, _, _, _, rfl⟩ ?_ ?_⟩
    · clear sm9 fe9 nmf emd9 md
      rintro t σ H3 ht ⟨sm, fe, md, zs, nmf, emd, lz, tabs, r1, r4, r5, r6, r7, r8, r9, r10, r11, r12, r13, rfl⟩
      have ht4 : t < 4 := ht
      refine ⟨.ref f, rfl, f, 10, rfl, by decide, by decide, fe, fun H4 c xs es c4 fe4 hc ncf nc tr gd bd le => ?_⟩
      have va := val_drawn gd bd
      have sm4 := Ch.old c4 hf0 sm
      have emd4 := c4 _ _ nmf emd
      have tabs4 := tabs.ch c4 (fe_lst fe)
      clear sm fe emd tabs nc c4 gd bd
      -- mine
      refine ⟨.ref c, rfl, c, xs, rfl, .inl (SqL.of hc), fun mi nmi => ?_⟩
      have smi := same_new (o := .lst xs) nmi
      have nmif : mi ≠ f := fe4.ne nmi
      have nmic : mi ≠ c := fun z => by rw [z, hc] at nmi; cases nmi
      have nmimd : mi ≠ md := fun z => by rw [z, emd4] at nmi; cases nmi
      have hmi := upd_same (H := H4) (a := mi) (o := .lst xs)
      have sm5 := sm4.trans smi
      have fe5 := fe4.same smi
      have emd5 := smi _ _ emd4
      have tabs5 := tabs4.same smi
      have hc5 := smi _ _ hc
      have tr5 := tr.same smi
      have hmi0 : H mi = none := sm4.free nmi
      generalize upd H4 mi (.lst xs) = H5 at smi hmi sm5 fe5 emd5 tabs5 hc5 tr5 ⊢
      clear smi sm4 fe4 emd4 tabs4 hc tr nmi
      -- some
      refine ⟨.ref mi, rfl, fun x1 dx1 n1 n2 n3 => mk_tab2 (.inl (SqL.of hmi)) tr5 (by omega) n1 n2 n3 fun H6 s6 tab1 => ?_⟩
      refine ⟨.ref c, rfl, c, xs, rfl, .inl ⟨SqL.of (s6 _ _ hc5), fun u nu => ?_⟩⟩
      have su := same_new (o := .tup xs) nu
      have s7 := s6.trans su
      refine fun x2 dx2 n1 n2 n3 => mk_tab2 (.inr (SqT.of upd_same)) (tr5.same s7) (by omega) n1 n2 n3 fun H8 s8 tab2 => ?_
      have s58 := s7.trans s8
      refine ⟨rfl, .ref c, rfl, fun x3 dx3 n1 n2 n3 => mk_tab2 (.inl (SqL.of (s58 _ _ hc5))) (tr5.same s58) (by omega) n1 n2 n3 fun H9 s9 tab3 => ?_⟩
      obtain ⟨d3, f3, hx3⟩ := tab_ins tab3
      refine ⟨x3, d3, f3, rfl, hx3, x3, es, rfl, tab3, by omega, vsml va, fun H10 s10 => ⟨_, rfl, es, by rw [H8T.ttx_txt]; rfl, va, by omega, fun H11 x4 s11 tab4 => ⟨by show 3 ≤ sizeLine; decide, fun so nso => ?_⟩⟩⟩
      have sso := same_new (o := .lst [.ref x1, .ref x2, .ref x4]) nso
      have hso := upd_same (H := H11) (a := so) (o := .lst [.ref x1, .ref x2, .ref x4])
      have sB := s9.trans (s10.trans (s11.trans sso))
      have tabA := tab1.same (su.trans (s8.trans sB))
      have tabB := tab2.same sB
      have tabC := tab4.same sso
      have sA := s58.trans sB
      have nsof : so ≠ f := (fe5.same (s58.trans (s9.trans (s10.trans s11)))).ne nso
      have hmi6 := sA _ _ hmi
      have nsomi : mi ≠ so := fun z => by
        have := (s58.trans (s9.trans (s10.trans s11))) _ _ hmi
        rw [z, nso] at this
        cases this
      generalize upd H11 so (.lst [.ref x1, .ref x2, .ref x4]) = H12 at sso hso sB tabA tabB tabC sA hmi6 ⊢
      clear s6 su s7 s8 s58 s9 s10 s11 sso sB tab1 tab2 tab3 tab4 hx3 nu nso hmi
      -- mine.append
      refine ⟨.ref mi, rfl, .inl ⟨rfl, _, SqL.of hmi6⟩, by show 3 ≤ sizeLine; decide, fun q0 nq0 => ?_⟩
      have sq := same_new (o := .tup [.int 0, .int 1, .int 99]) nq0
      have lx := tr5.length
      refine ⟨mi, xs, _, rfl, rfl, sq _ _ hmi6, small3 (by omega), ?_⟩
      have cm : Ch mi H12 (upd (upd H12 q0 (.tup [.int 0, .int 1, .int 99])) mi (.lst (xs ++ [.ref q0]))) := (Ch.of_same sq).trans Ch.put
      have hml : ∃ acc, H12 mi = some (.lst acc) := ⟨_, hmi6⟩
      have sm13 : Same H (upd (upd H12 q0 (.tup [.int 0, .int 1, .int 99])) mi (.lst (xs ++ [.ref q0]))) := Ch.old cm hmi0 (sm5.trans sA)
      have fe13 : FeedAt (upd (upd H12 q0 (.tup [.int 0, .int 1, .int 99])) mi (.lst (xs ++ [.ref q0]))) f := ((fe5.same sA).same sq).upd nmif
      have emd13 := cm _ _ (Ne.symm nmimd) (sA _ _ emd5)
      have tabs13 := (tabs5.same sA).ch cm hml
      have hc13 := cm _ _ (Ne.symm nmic) (sA _ _ hc5)
      have tr13 := (tr5.same sA).ch cm hml
      have tabA13 := tabA.ch cm hml
      have tabB13 := tabB.ch cm hml
      have tabC13 := tabC.ch cm hml
      have hso13 := cm _ _ (Ne.symm nsomi) hso
      generalize upd (upd H12 q0 (.tup [.int 0, .int 1, .int 99])) mi (.lst (xs ++ [.ref q0])) = H13 at cm sm13 fe13 emd13 tabs13 hc13 tr13 tabA13 tabB13 tabC13 hso13 ⊢
      clear sq cm hml tabA tabB tabC hso sA hmi6 sm5 fe5 emd5 tabs5 hc5 tr5 nq0
      -- for table in some
      have three : ∀ y ∈ [V.ref x1, .ref x2, .ref x4], ∃ x, y = V.ref x ∧ TabAt H13 CT x es := fun y hy => by
        simp only [List.mem_cons, List.not_mem_nil, or_false] at hy
        rcases hy with rfl | rfl | rfl
        · exact ⟨x1, rfl, tabA13⟩
        · exact ⟨x2, rfl, tabB13⟩
        · exact ⟨x4, rfl, tabC13⟩
      have hfl := fe_lst fe13
      refine ⟨.ref so, rfl, so, rfl, ⟨_, SqL.of hso13⟩, for_list (K := K) (a := so) (xs := [.ref x1, .ref x2, .ref x4]) (fun i σ Hz => Ch f H13 Hz ∧ FeedAt Hz f ∧ ∃ r1 r4 r5 r7 r9 r10 r11 r12 r13 : Option V, σ = [some (.ref a), r1, some (.ref f), some (.ref md), r4, r5, some (.ref c), r7, some (.ref so), r9, r10, r11, r12, r13]) ⟨Ch.refl _ _, fe13, _, _, _, _, _, _, _, _, _, rfl⟩ (fun i σ Hz _ z => SqL.of (z.1 _ _ nsof hso13)) ?_ ?_⟩
      · rintro j y σ Hz hy ⟨cz, fz, r1, r4, r5, r7, r9, r10, r11, r12, r13, rfl⟩
        obtain ⟨x, rfl, tx⟩ := three y (List.mem_of_getElem? hy)
        refine ⟨.ref f, rfl, .ref x, rfl, .ref c, rfl, f, x, c, xs, es, rfl, fz, tx.ch cz hfl, ncf, cz _ _ ncf hc13, tr13.ch cz hfl, va, by omega, fun H14 c14 fe14 => ⟨_, rfl, iteF ?_⟩⟩
        have cc := cz.trans c14
        have t1 := tx.ch cc hfl
        have t2 := tabA13.ch cc hfl
        obtain ⟨d1, f1, h1⟩ := tab_ins t1
        obtain ⟨d2, f2, h2⟩ := tab_ins t2
        refine ⟨.ref x, rfl, .ref so, rfl, so, _, 0, .ref x1, rfl, rfl, SqL.of (cc _ _ nsof hso13), at_of (j := 0) rfl rfl, x, x1, d1, d2, _, _, rfl, rfl, h1, h2, x, x1, es, es, rfl, t1, t2, by omega, by omega, _, rfl, _, rfl, ?_⟩
        rw [decide_eq_true rfl]
        exact iteF ⟨cc, fe14, _, _, _, _, _, _, _, _, _, rfl⟩
      rintro σ H14 ⟨c14, fe14, r1, r4, r5, r7, r9, r10, r11, r12, r13, rfl⟩
      have sm14 := Ch.old c14 hf0 sm13
      have emd14 := c14 _ _ nmf emd13
      have tabs14 := tabs13.ch c14 hfl
      have hc14 := c14 _ _ ncf hc13
      have tr14 := tr13.ch c14 hfl
      have hso14 := c14 _ _ nsof hso13
      have tA := tabA13.ch c14 hfl
      have tB := tabB13.ch c14 hfl
      have tC := tabC13.ch c14 hfl
      clear c14 hfl sm13 fe13 emd13 tabs13 hc13 tr13 tabA13 tabB13 tabC13 hso13 three
      -- made + some + [..]
      refine ⟨.ref md, rfl, .ref so, rfl, md, so, _, _, rfl, rfl, emd14, hso14, Nat.le_trans (show zs.length + 3 ≤ 3000 by omega) (by decide), fun l1 nl1 => ?_⟩
      have sl1 := same_new (o := .lst (zs ++ [.ref x1, .ref x2, .ref x4])) nl1
      have hl1 := upd_same (H := H14) (a := l1) (o := .lst (zs ++ [.ref x1, .ref x2, .ref x4]))
      generalize upd H14 l1 (.lst (zs ++ [.ref x1, .ref x2, .ref x4])) = H15 at sl1 hl1 ⊢
      refine ⟨.ref c, rfl, 1, rfl, -1, rfl, rfl, c, _, rfl, SqL.of (sl1 _ _ hc14), fun b nb => ?_⟩
      have sb := same_new (o := .lst xs.reverse) nb
      have s16 := sl1.trans sb
      refine fun x5 dx5 n1 n2 n3 => mk_tab2 (T := es.reverse) (.inl (SqL.of upd_same)) (tr14.same s16).rev (by rw [List.length_reverse]; omega) n1 n2 n3 fun H17 s17 tab5 => ?_
      have s147 := s16.trans s17
      refine ⟨.ref c, rfl, 1, rfl, c, xs, rfl, SqL.of (s147 _ _ hc14), fun d nd => ?_⟩
      rw [show (some (1 : Int)) = some ((1 : Nat) : Int) from rfl, cutv_from]
      have sd := same_new (o := .lst (xs.drop 1)) nd
      have s148 := s147.trans sd
      refine fun x6 dx6 n1 n2 n3 => mk_tab2 (T := es.drop 1) (.inl (SqL.of upd_same)) (trips_drop (tr14.same s148)) (by rw [List.length_drop]; omega) n1 n2 n3 fun H19 s19 tab6 => ⟨by show 2 ≤ sizeLine; decide, fun l2 nl2 => ?_⟩
      have sl2 := same_new (o := .lst [.ref x5, .ref x6]) nl2
      have s20 := s148.trans (s19.trans sl2)
      refine ⟨l1, l2, _, _, rfl, rfl, (sb.trans (s17.trans (sd.trans (s19.trans sl2)))) _ _ hl1, upd_same, ?_, fun m2 nm2 => ?_⟩
      · rw [List.length_append]; exact Nat.le_trans (show zs.length + 3 + 2 ≤ 3000 by omega) (by decide)
      have sm2 := same_new (o := .lst ((zs ++ [V.ref x1, .ref x2, .ref x4]) ++ [.ref x5, .ref x6])) nm2
      have sF := s20.trans sm2
      have feF := fe14.same sF
      refine ⟨sm14.trans sF, feF, m2, _, (fe14.same s20).ne nm2, upd_same, ?_, ?_, _, _, _, _, _, _, _, _, _, _, _, rfl⟩
      · rw [List.length_append, List.length_append]; show zs.length + 3 + 2 = _; omega
      · intro y hy
        rcases List.mem_append.mp hy with hy | hy
        · rcases List.mem_append.mp hy with hy | hy
          · exact (tabs14.same sF) y hy
          · simp only [List.mem_cons, List.not_mem_nil, or_false] at hy
            rcases hy with rfl | rfl | rfl
            · exact ⟨x1, es, rfl, tA.same sF, va, by omega⟩
            · exact ⟨x2, es, rfl, tB.same sF, va, by omega⟩
            · exact ⟨x4, es, rfl, tC.same sF, va, by omega⟩
        · simp only [List.mem_cons, List.not_mem_nil, or_false] at hy
          rcases hy with rfl | rfl
          · exact ⟨x5, es.reverse, rfl, tab5.same (sd.trans (s19.trans (sl2.trans sm2))), fun e he => va e (List.mem_reverse.mp he), by rw [List.length_reverse]; omega⟩
          · exact ⟨x6, es.drop 1, rfl, tab6.same (sl2.trans sm2), fun e he => va e (List.mem_of_mem_drop he), by rw [List.length_drop]; omega⟩
    clear sm9 fe9 nmf emd9 md
    rintro σ H3 ⟨sm, fe, md, zs, nmf, emd, lz, tabs, r1, r4, r5, r6, r7, r8, r9, r10, r11, r12, r13, rfl⟩
    -- for one
    refine ⟨.ref md, rfl, md, rfl, ⟨_, SqL.of emd⟩, for_list (K := K) (a := md) (xs := zs) (fun _ σ Hz => Same H3 Hz ∧ ∃ r1 r2 r4 r5 r6 r7 r8 r9 r10 r11 r12 r13 : Option V, σ = [some (.ref a), r1, r2, some (.ref md), r4, r5, r6, r7, r8, r9, r10, r11, r12, r13]) ⟨Same.refl _, _, _, _, _, _, _, _, _, _, _, _, _, rfl⟩ (fun _ _ _ _ z => SqL.of (z.1 _ _ emd)) ?_ ?_⟩
    case refine_2 =>
      rintro σ Hz ⟨sz, r1, r2, r4, r5, r6, r7, r8, r9, r10, r11, r12, r13, rfl⟩
      exact ⟨sm.trans sz, _, _, _, _, _, _, _, _, _, _, _, _, _, rfl⟩
    rintro i1 y1 σ H5 hy1 ⟨s5, r1, r2, r4, r5, r6, r7, r8, r9, r10, r11, r12, r13, rfl⟩
    obtain ⟨x, T1, rfl, ta, v1, l1⟩ := tabs y1 (List.mem_of_getElem? hy1)
    -- for other
    refine ⟨.ref md, rfl, md, rfl, ⟨_, SqL.of (s5 _ _ emd)⟩, for_list (K := K) (a := md) (xs := zs) (fun _ σ Hz => Same H3 Hz ∧ ∃ r1 r2 r4 r5 r6 r7 r8 r9 r11 r12 r13 : Option V, σ = [some (.ref a), r1, r2, some (.ref md), r4, r5, r6, r7, r8, r9, some (.ref x), r11, r12, r13]) ⟨s5, _, _, _, _, _, _, _, _, _, _, _, rfl⟩ (fun _ _ _ _ z => SqL.of (z.1 _ _ emd)) ?_ ?_⟩
    · clear s5
      rintro i2 y2 σ H6 hy2 ⟨s6, r1, r2, r4, r5, r6, r7, r8, r9, r11, r12, r13, rfl⟩
      obtain ⟨y, T2, rfl, tb, v2, l2⟩ := tabs y2 (List.mem_of_getElem? hy2)
      have ta6 := ta.same s6
      have tb6 := tb.same s6
      obtain ⟨dx, fx, hx⟩ := tab_ins ta6
      obtain ⟨dy, fy, hy⟩ := tab_ins tb6
      refine ⟨.ref x, rfl, x, dx, _, rfl, hx, x, T1, rfl, ta6, by omega, vsml v1, fun H7 s7 => ⟨_, rfl, .ref y, rfl, y, dy, _, rfl, s7 _ _ hy, y, T2, rfl, tb6.same s7, by omega, vsml v2, fun H8 s8 => ⟨_, rfl, rfl, ?_⟩⟩⟩
      rw [tx_eq v1 v2]
      have w2 := s7.trans s8
      have n1 : ∀ b : Bool, V.bl (false != b) = V.bl b := by intro b; cases b <;> rfl
      have n2 : ∀ b : Bool, decide (V.bl (true != b) = V.bl b) = false := by
        intro b
        refine decide_eq_false fun h => ?_
        cases b <;> simp at h
      have ta7 := ta6.same w2
      have tb7 := tb6.same w2
      have hx7 := w2 _ _ hx
      have hy7 := w2 _ _ hy
      have s9 := s6.trans w2
      refine ⟨.ref x, rfl, .ref y, rfl, x, y, dx, dy, _, _, rfl, rfl, hx7, hy7, x, y, T1, T2, rfl, ta7, tb7, by omega, by omega, _, rfl, .bl _, rfl, rfl, _, rfl, iteNS (n1 _) ?_⟩
      refine ⟨.ref x, rfl, .ref y, rfl, x, y, dx, dy, _, _, rfl, rfl, hx7, hy7, x, y, T1, T2, rfl, ta7, tb7, by omega, by omega, _, rfl, .bl _, rfl, rfl, _, rfl, ?_⟩
      rw [n2]
      exact iteF ⟨s9, _, _, _, _, _, _, _, _, _, _, _, rfl⟩
    clear s5
    rintro σ H6 ⟨s6, r1, r2, r4, r5, r6, r7, r8, r9, r11, r12, r13, rfl⟩
    -- for thing
    have ta6 := ta.same s6
    obtain ⟨dx, t1, ys, hx, ht, _⟩ := id ta6
    refine ⟨.ref x, rfl, x, CT, dx, _, .ref t1, rfl, hx, T.tbl.cl, T.tbl.nE, rfl, .ref x, rfl, x, dx, _, rfl, hx, x, T1, rfl, ta6, by omega, vsml v1, fun H7 s7 => ⟨_, rfl, Nat.zero_le _, fun z nz => ⟨by show 5 ≤ sizeLine; decide, fun L nL => ?_⟩⟩⟩
    have sz0 := same_new (o := .lst []) nz
    have sL := same_new (o := .lst [.ref t1, .str (H8T.ttx T1), .non, .int 0, .ref z]) nL
    have w1 := s7.trans (sz0.trans sL)
    have ez := sL _ _ (upd_same (H := H7) (a := z) (o := .lst []))
    have eL := upd_same (H := upd H7 z (.lst [])) (a := L) (o := .lst [.ref t1, .str (H8T.ttx T1), .non, .int 0, .ref z])
    have et1 := w1 _ _ ht
    have hx8 := w1 _ _ hx
    have s8 := s6.trans w1
    generalize upd (upd H7 z (.lst [])) L (.lst [.ref t1, .str (H8T.ttx T1), .non, .int 0, .ref z]) = H8 at ez eL et1 hx8 s8 ⊢
    clear w1 sL sz0 s7 nz nL ht hx
    have nfo : ∀ {t : Value}, PySem.W.subIn K t (.ref CT) = some false → PySem.W.notFirst K CT t = true := fun {t} h => by
      unfold PySem.W.notFirst
      rw [h]
      simp
    have kinds : ∀ y ∈ [V.ref t1, .str (H8T.ttx T1), .non, .int 0, .ref z], ∀ Hz, Same H8 Hz → ∃ t, TyX K Hz y t ∧ PySem.W.notFirst K CT t = true ∧ PySem.W.kitOne K t (.ref CT) = some false := fun y hy Hz sz => by
      simp only [List.mem_cons, List.not_mem_nil, or_false] at hy
      rcases hy with e | e | e | e | e <;> subst e
      · exact ⟨_, .base (.tup (sz _ _ et1)), nfo T.nftuple, T.kotuple⟩
      · exact ⟨_, .base (.str _), nfo T.nfstr, T.kostr⟩
      · exact ⟨_, .base .non, nfo T.nfNoneType, T.koNoneType⟩
      · exact ⟨_, .base (.int _), nfo T.nfint, T.koint⟩
      · exact ⟨_, .base (.lst (sz _ _ ez)), nfo T.nflist, T.kolist⟩
    refine ⟨L, rfl, ⟨_, SqL.of eL⟩, for_list (K := K) (a := L) (xs := [.ref t1, .str (H8T.ttx T1), .non, .int 0, .ref z]) (fun _ σ Hz => Same H8 Hz ∧ ∃ r1 r2 r4 r5 r6 r7 r8 r9 r11 r12 r13 : Option V, σ = [some (.ref a), r1, r2, some (.ref md), r4, r5, r6, r7, r8, r9, some (.ref x), r11, r12, r13]) ⟨Same.refl _, _, _, _, _, _, _, _, _, _, _, _, rfl⟩ (fun _ _ _ _ z => SqL.of (z.1 _ _ eL)) ?_ ?_⟩
    · rintro i3 y3 σ Hz hy3 ⟨sz, r1, r2, r4, r5, r6, r7, r8, r9, r11, r12, r13, rfl⟩
      obtain ⟨t, ty, n1, k1⟩ := kinds y3 (List.mem_of_getElem? hy3) Hz sz
      refine ⟨.ref x, rfl, y3, rfl, x, dx, _, t, rfl, sz _ _ hx8, ty, n1, x, y3, t, rfl, ty, k1, false, rfl, false, rfl, iteF ?_⟩
      refine ⟨.ref x, rfl, y3, rfl, x, dx, _, t, rfl, sz _ _ hx8, ty, n1, x, y3, t, rfl, ty, k1, false, rfl, true, rfl, iteF ⟨sz, _, _, _, _, _, _, _, _, _, _, _, rfl⟩⟩
    rintro σ Hz ⟨sz, r1, r2, r4, r5, r6, r7, r8, r9, r11, r12, r13, rfl⟩
    exact ⟨s8.trans sz, _, _, _, _, _, _, _, _, _, _, _, _, rfl⟩
end
end Z5L

set_option pp.maxSteps 300
namespace Z5E
open PySem PySem.Spec PyProof.Rows L2 KA KD PH PM RM K52b XU GML
open XT hiding pairs_get
open NX (Val)
open Z5K hiding sEQ
open Z5R
open Z5L
theorem all_mk {l : PySem.W.OpenLaw} {w : World} {K : PySem.W.Frag} {h : Heap} {mg : Str → Option Value} {fa fNU fRD fNM fRO fEO fFE fTA fPI fIV fEN fAM fWE fMY fRT CT fTI pP fPA fUA fUW fEQ fUS fLAW : Addr} (X : K.In h) (G : h.Ns mainGlobals mg) (hfa : mg "law" = some (.ref fa))
    {odNU anNU odRD anRD odNM anNM odRO anRO odEO anEO odFE anFE odTA anTA odPI anPI odIV anIV odEN anEN odAM anAM odWE anWE odMY anMY odRT anRT odTI anTI odPA anPA odUA anUA odUW anUW odEQ anEQ odUS anUS odLAW anLAW : Option Addr} {slNU slRD slNM slRO slEO slFE slTA slPI slIV slEN slAM slWE slMY slRT slTI slPA slUA slUW slEQ slUS slLAW : Array (Option Value)} {ocNU dcNU pmNU cdNU ctNU kVNU ocRD dcRD pmRD cdRD ctRD kVRD ocNM dcNM pmNM cdNM ctNM kVNM ocRO dcRO pmRO cdRO ctRO kVRO ocEO dcEO pmEO cdEO ctEO kVEO ocFE dcFE pmFE cdFE ctFE kVFE ocTA dcTA pmTA cdTA ctTA kVTA ocPI dcPI pmPI cdPI ctPI kVPI ocIV dcIV pmIV cdIV ctIV kVIV ocEN dcEN pmEN cdEN ctEN kVEN ocAM dcAM pmAM cdAM ctAM kVAM ocWE dcWE pmWE cdWE ctWE kVWE ocMY dcMY pmMY cdMY ctMY kVMY ocRT dcRT pmRT cdRT ctRT kVRT ocTI dcTI pmTI cdTI ctTI kVTI ocPA dcPA pmPA cdPA ctPA kVPA ocUA dcUA pmUA cdUA ctUA kVUA ocUW dcUW pmUW cdUW ctUW kVUW ocEQ dcEQ pmEQ cdEQ ctEQ kVEQ ocUS dcUS pmUS cdUS ctUS kVUS vgLIM vgLON vgGRE ocLAW dcLAW pmLAW cdLAW ctLAW kVLAW : Value} {rPA : List Value}
    (aNU : PySem.W.nsIn K mainGlobals "is_number" = some (some (.ref fNU)))
    (lNU : K.lookup fNU = some ⟨ocNU, odNU, .func (PySem.W.fnOf "is_number" "is_number" (defArgs sNU) (defBody sNU) (defScope sNU) .none kVNU dcNU pmNU anNU cdNU ctNU), slNU⟩)
    (cNU : PySem.W.codeIn K cdNU "is_number" = true)
    (kNU : PySem.W.keepIn K (.ref fNU) = true)
    (aRD : PySem.W.nsIn K mainGlobals "is_reading" = some (some (.ref fRD)))
    (lRD : K.lookup fRD = some ⟨ocRD, odRD, .func (PySem.W.fnOf "is_reading" "is_reading" (defArgs sRD) (defBody sRD) (defScope sRD) .none kVRD dcRD pmRD anRD cdRD ctRD), slRD⟩)
    (cRD : PySem.W.codeIn K cdRD "is_reading" = true)
    (kRD : PySem.W.keepIn K (.ref fRD) = true)
    (aNM : PySem.W.nsIn K mainGlobals "is_numeral" = some (some (.ref fNM)))
    (lNM : K.lookup fNM = some ⟨ocNM, odNM, .func (PySem.W.fnOf "is_numeral" "is_numeral" (defArgs sNM) (defBody sNM) (defScope sNM) .none kVNM dcNM pmNM anNM cdNM ctNM), slNM⟩)
    (cNM : PySem.W.codeIn K cdNM "is_numeral" = true)
    (kNM : PySem.W.keepIn K (.ref fNM) = true)
    (aRO : PySem.W.nsIn K mainGlobals "reading_of" = some (some (.ref fRO)))
    (lRO : K.lookup fRO = some ⟨ocRO, odRO, .func (PySem.W.fnOf "reading_of" "reading_of" (defArgs sRO) (defBody sRO) (defScope sRO) .none kVRO dcRO pmRO anRO cdRO ctRO), slRO⟩)
    (cRO : PySem.W.codeIn K cdRO "reading_of" = true)
    (kRO : PySem.W.keepIn K (.ref fRO) = true)
    (aEO : PySem.W.nsIn K mainGlobals "entry_of" = some (some (.ref fEO)))
    (lEO : K.lookup fEO = some ⟨ocEO, odEO, .func (PySem.W.fnOf "entry_of" "entry_of" (defArgs sEO) (defBody sEO) (defScope sEO) .none kVEO dcEO pmEO anEO cdEO ctEO), slEO⟩)
    (cEO : PySem.W.codeIn K cdEO "entry_of" = true)
    (kEO : PySem.W.keepIn K (.ref fEO) = true)
    (aFE : PySem.W.nsIn K mainGlobals "_law_feed" = some (some (.ref fFE)))
    (lFE : K.lookup fFE = some ⟨ocFE, odFE, .func (PySem.W.fnOf "_law_feed" "_law_feed" (defArgs sFeed) (defBody sFeed) (defScope sFeed) .none kVFE dcFE pmFE anFE cdFE ctFE), slFE⟩)
    (cFE : PySem.W.codeIn K cdFE "_law_feed" = true)
    (kFE : PySem.W.keepIn K (.ref fFE) = true)
    (aTA : PySem.W.nsIn K mainGlobals "_law_take" = some (some (.ref fTA)))
    (lTA : K.lookup fTA = some ⟨ocTA, odTA, .func (PySem.W.fnOf "_law_take" "_law_take" (defArgs sTake) (defBody sTake) (defScope sTake) .none kVTA dcTA pmTA anTA cdTA ctTA), slTA⟩)
    (cTA : PySem.W.codeIn K cdTA "_law_take" = true)
    (kTA : PySem.W.keepIn K (.ref fTA) = true)
    (aPI : PySem.W.nsIn K mainGlobals "_law_pick" = some (some (.ref fPI)))
    (lPI : K.lookup fPI = some ⟨ocPI, odPI, .func (PySem.W.fnOf "_law_pick" "_law_pick" (defArgs sPick) (defBody sPick) (defScope sPick) .none kVPI dcPI pmPI anPI cdPI ctPI), slPI⟩)
    (cPI : PySem.W.codeIn K cdPI "_law_pick" = true)
    (kPI : PySem.W.keepIn K (.ref fPI) = true)
    (aIV : PySem.W.nsIn K mainGlobals "_law_interval" = some (some (.ref fIV)))
    (lIV : K.lookup fIV = some ⟨ocIV, odIV, .func (PySem.W.fnOf "_law_interval" "_law_interval" (defArgs sIv) (defBody sIv) (defScope sIv) .none kVIV dcIV pmIV anIV cdIV ctIV), slIV⟩)
    (cIV : PySem.W.codeIn K cdIV "_law_interval" = true)
    (kIV : PySem.W.keepIn K (.ref fIV) = true)
    (aEN : PySem.W.nsIn K mainGlobals "_law_entries" = some (some (.ref fEN)))
    (lEN : K.lookup fEN = some ⟨ocEN, odEN, .func (PySem.W.fnOf "_law_entries" "_law_entries" (defArgs sEn) (defBody sEn) (defScope sEn) .none kVEN dcEN pmEN anEN cdEN ctEN), slEN⟩)
    (cEN : PySem.W.codeIn K cdEN "_law_entries" = true)
    (kEN : PySem.W.keepIn K (.ref fEN) = true)
    (aAM : PySem.W.nsIn K mainGlobals "_law_amount" = some (some (.ref fAM)))
    (lAM : K.lookup fAM = some ⟨ocAM, odAM, .func (PySem.W.fnOf "_law_amount" "_law_amount" (defArgs H8V.sAm) (defBody H8V.sAm) (defScope H8V.sAm) .none kVAM dcAM pmAM anAM cdAM ctAM), slAM⟩)
    (cAM : PySem.W.codeIn K cdAM "_law_amount" = true)
    (kAM : PySem.W.keepIn K (.ref fAM) = true)
    (aWE : PySem.W.nsIn K mainGlobals "_law_wear" = some (some (.ref fWE)))
    (lWE : K.lookup fWE = some ⟨ocWE, odWE, .func (PySem.W.fnOf "_law_wear" "_law_wear" (defArgs H8V.sWe) (defBody H8V.sWe) (defScope H8V.sWe) .none kVWE dcWE pmWE anWE cdWE ctWE), slWE⟩)
    (cWE : PySem.W.codeIn K cdWE "_law_wear" = true)
    (kWE : PySem.W.keepIn K (.ref fWE) = true)
    (aMY : PySem.W.nsIn K mainGlobals "_law_many" = some (some (.ref fMY)))
    (lMY : K.lookup fMY = some ⟨ocMY, odMY, .func (PySem.W.fnOf "_law_many" "_law_many" (defArgs sMY) (defBody sMY) (defScope sMY) .none kVMY dcMY pmMY anMY cdMY ctMY), slMY⟩)
    (cMY : PySem.W.codeIn K cdMY "_law_many" = true)
    (kMY : PySem.W.keepIn K (.ref fMY) = true)
    (aRT : PySem.W.nsIn K mainGlobals "_law_right" = some (some (.ref fRT)))
    (lRT : K.lookup fRT = some ⟨ocRT, odRT, .func (PySem.W.fnOf "_law_right" "_law_right" (defArgs sRT) (defBody sRT) (defScope sRT) .none kVRT dcRT pmRT anRT cdRT ctRT), slRT⟩)
    (cRT : PySem.W.codeIn K cdRT "_law_right" = true)
    (kRT : PySem.W.keepIn K (.ref fRT) = true)
    (aC : PySem.W.nsIn K mainGlobals "Table" = some (some (.ref CT)))
    (pg : PySem.W.plainGet K CT Str.empty = true)
    (hd : PySem.W.hasDictIn K CT = true)
    (po : PySem.W.plainOver K CT = true)
    (sa : PySem.W.findIn K (.ref CT) "__setattr__" = some (some (.builtin "object.__setattr__")))
    (na0 : PySem.W.findIn K (.ref CT) "entries" = some none)
    (mk : PySem.W.makesIn K CT = true)
    (kc : PySem.W.keepIn K (.ref CT) = true)
    (aI : PySem.W.findIn K (.ref CT) "__init__" = some (some (.ref fTI)))
    (iI : PySem.W.isFn K (.ref fTI) = true)
    (lTI : K.lookup fTI = some ⟨ocTI, odTI, .func (PySem.W.fnOf "__init__" "Table.__init__" (defArgs sTI) (defBody sTI) (defScope sTI) .none kVTI dcTI pmTI anTI cdTI ctTI), slTI⟩)
    (cTI : PySem.W.codeIn K cdTI "Table.__init__" = true)
    (kTI : PySem.W.keepIn K (.ref fTI) = true)
    (rdPA : PySem.W.readsIn K CT (.type "type") = true)
    (gaPA : PySem.W.specialIn K (.ref CT) "__getattribute__" = some (some (.builtin "type.__getattribute__")))
    (aPA : PySem.W.findCls K (.ref CT) (.type "type") "parse" = some (.get (.builtin "classmethod.__get__") (.ref pP) .none (.ref CT)))
    (rcPA : PySem.W.recIn K pP "classmethod" = some (.ref fPA :: rPA))
    (fiPA : PySem.W.fnIn K fPA = true)
    (lPA : K.lookup fPA = some ⟨ocPA, odPA, .func (PySem.W.fnOf "parse" "Table.parse" (defArgs sPA) (defBody sPA) (defScope sPA) .none kVPA dcPA pmPA anPA cdPA ctPA), slPA⟩)
    (cPA : PySem.W.codeIn K cdPA "Table.parse" = true)
    (kPA : PySem.W.keepIn K (.ref fPA) = true)
    (aUA : PySem.W.findIn K (.ref CT) "amount" = some (some (.ref fUA)))
    (iUA : PySem.W.isFn K (.ref fUA) = true)
    (lUA : K.lookup fUA = some ⟨ocUA, odUA, .func (PySem.W.fnOf "amount" "Table.amount" (defArgs sTA) (defBody sTA) (defScope sTA) .none kVUA dcUA pmUA anUA cdUA ctUA), slUA⟩)
    (cUA : PySem.W.codeIn K cdUA "Table.amount" = true)
    (kUA : PySem.W.keepIn K (.ref fUA) = true)
    (aUW : PySem.W.findIn K (.ref CT) "wear" = some (some (.ref fUW)))
    (iUW : PySem.W.isFn K (.ref fUW) = true)
    (lUW : K.lookup fUW = some ⟨ocUW, odUW, .func (PySem.W.fnOf "wear" "Table.wear" (defArgs sTW) (defBody sTW) (defScope sTW) .none kVUW dcUW pmUW anUW cdUW ctUW), slUW⟩)
    (cUW : PySem.W.codeIn K cdUW "Table.wear" = true)
    (kUW : PySem.W.keepIn K (.ref fUW) = true)
    (ihaEQ : PySem.W.findIn K (.ref CT) "__class__" = some (some (.builtin "object.__class__")))
    (ihnEQ : PySem.W.specialIn K (.builtin "object.__class__") "__get__" = some (some (.builtin "getset_descriptor.__get__")))
    (ihtEQ : PySem.W.takesIn K (.builtin "object.__class__") = some true)
    (ihmEQ : PySem.W.mroIn K CT (.type "object") = some true)
    (aEQ : PySem.W.findIn K (.ref CT) "__eq__" = some (some (.ref fEQ)))
    (iEQ : PySem.W.isFn K (.ref fEQ) = true)
    (lEQ : K.lookup fEQ = some ⟨ocEQ, odEQ, .func (PySem.W.fnOf "__eq__" "Table.__eq__" (defArgs Z5K.sEQ) (defBody Z5K.sEQ) (defScope Z5K.sEQ) .none kVEQ dcEQ pmEQ anEQ cdEQ ctEQ), slEQ⟩)
    (cEQ : PySem.W.codeIn K cdEQ "Table.__eq__" = true)
    (kEQ : PySem.W.keepIn K (.ref fEQ) = true)
    (neEQ : PySem.W.findIn K (.ref CT) "__ne__" = some (some (.builtin "object.__ne__")))
    (aUS : PySem.W.findIn K (.ref CT) "__str__" = some (some (.ref fUS)))
    (iUS : PySem.W.isFn K (.ref fUS) = true)
    (lUS : K.lookup fUS = some ⟨ocUS, odUS, .func (PySem.W.fnOf "__str__" "Table.__str__" (defArgs H8T.sTS) (defBody H8T.sTS) (defScope H8T.sTS) .none kVUS dcUS pmUS anUS cdUS ctUS), slUS⟩)
    (cUS : PySem.W.codeIn K cdUS "Table.__str__" = true)
    (kUS : PySem.W.keepIn K (.ref fUS) = true)
    (nftuple : PySem.W.subIn K (.type "tuple") (.ref CT) = some false)
    (nfNoneType : PySem.W.subIn K (.type "NoneType") (.ref CT) = some false)
    (nfstr : PySem.W.subIn K (.type "str") (.ref CT) = some false)
    (nfint : PySem.W.subIn K (.type "int") (.ref CT) = some false)
    (nflist : PySem.W.subIn K (.type "list") (.ref CT) = some false)
    (kotuple : PySem.W.kitOne K (.type "tuple") (.ref CT) = some false)
    (koNoneType : PySem.W.kitOne K (.type "NoneType") (.ref CT) = some false)
    (kostr : PySem.W.kitOne K (.type "str") (.ref CT) = some false)
    (koint : PySem.W.kitOne K (.type "int") (.ref CT) = some false)
    (kolist : PySem.W.kitOne K (.type "list") (.ref CT) = some false)
    (agLIM : PySem.W.nsIn K mainGlobals "LIMIT" = some (some vgLIM))
    (rgLIM : RelV (.int 1000000000) vgLIM)
    (agLON : PySem.W.nsIn K mainGlobals "LONGEST" = some (some vgLON))
    (rgLON : RelV (.int 11) vgLON)
    (agGRE : PySem.W.nsIn K mainGlobals "GREATEST" = some (some vgGRE))
    (rgGRE : RelV (.int 1000000) vgGRE)
    (z1 : PySem.W.nsIn K mainGlobals "len" = some none)
    (z2 : PySem.W.nsIn K mainGlobals "max" = some none)
    (z3 : PySem.W.nsIn K mainGlobals "min" = some none)
    (z4 : PySem.W.nsIn K mainGlobals "abs" = some none)
    (z5 : PySem.W.nsIn K mainGlobals "range" = some none)
    (z6 : PySem.W.nsIn K mainGlobals "tuple" = some none)
    (z7 : PySem.W.nsIn K mainGlobals "list" = some none)
    (z8 : PySem.W.nsIn K mainGlobals "int" = some none)
    (z9 : PySem.W.nsIn K mainGlobals "bool" = some none)
    (z10 : PySem.W.nsIn K mainGlobals "isinstance" = some none)
    (z11 : PySem.W.nsIn K mainGlobals "repr" = some none)
    (z12 : PySem.W.nsIn K mainGlobals "str" = some none)
    (z13 : PySem.W.nsIn K mainGlobals "sum" = some none)
    (aLAW : PySem.W.nsIn K mainGlobals "law" = some (some (.ref fLAW)))
    (lLAW : K.lookup fLAW = some ⟨ocLAW, odLAW, .func (PySem.W.fnOf "law" "law" (defArgs Z5L.sLaw) (defBody Z5L.sLaw) (defScope Z5L.sLaw) .none kVLAW dcLAW pmLAW anLAW cdLAW ctLAW), slLAW⟩)
    (cLAW : PySem.W.codeIn K cdLAW "law" = true)
    (kLAW : PySem.W.keepIn K (.ref fLAW) = true) :
    ∃ fd : FuncData, (∀ (s : Shared) (v : Value), BindsTo s fd ⟨[v], []⟩ [("script", v)]) ∧ ∀ base : Heap, K.In base → base.Ns mainGlobals mg → KW.Kept l.prog w K mg base 9 fa fd ["script"] (Z5L.spLaw K) := by
  have e := hfa.symm.trans (PySem.W.mg_of X G aLAW)
  cases e
  have FNU := fun_mk (st := sNU) lNU cNU kNU
  have bNU := FNU.binds (ps := ["value"]) fun _ _ _ _ _ _ us hl => match us, hl with | [_], _ => rfl
  have FRD := fun_mk (st := sRD) lRD cRD kRD
  have bRD := FRD.binds (ps := ["value"]) fun _ _ _ _ _ _ us hl => match us, hl with | [_], _ => rfl
  have FNM := fun_mk (st := sNM) lNM cNM kNM
  have bNM := FNM.binds (ps := ["word"]) fun _ _ _ _ _ _ us hl => match us, hl with | [_], _ => rfl
  have FRO := fun_mk (st := sRO) lRO cRO kRO
  have bRO := FRO.binds (ps := ["word"]) fun _ _ _ _ _ _ us hl => match us, hl with | [_], _ => rfl
  have FEO := fun_mk (st := sEO) lEO cEO kEO
  have bEO := FEO.binds (ps := ["words"]) fun _ _ _ _ _ _ us hl => match us, hl with | [_], _ => rfl
  have FFE := fun_mk (st := sFeed) lFE cFE kFE
  have bFE := FFE.binds (ps := ["script", "k"]) fun _ _ _ _ _ _ us hl => match us, hl with | [_, _], _ => rfl
  have FTA := fun_mk (st := sTake) lTA cTA kTA
  have bTA := FTA.binds (ps := ["feed", "many"]) fun _ _ _ _ _ _ us hl => match us, hl with | [_, _], _ => rfl
  have FPI := fun_mk (st := sPick) lPI cPI kPI
  have bPI := FPI.binds (ps := ["feed", "some"]) fun _ _ _ _ _ _ us hl => match us, hl with | [_, _], _ => rfl
  have FIV := fun_mk (st := sIv) lIV cIV kIV
  have bIV := FIV.binds (ps := ["feed", "most"]) fun _ _ _ _ _ _ us hl => match us, hl with | [_, _], _ => rfl
  have FEN := fun_mk (st := sEn) lEN cEN kEN
  have bEN := FEN.binds (ps := ["feed", "most"]) fun _ _ _ _ _ _ us hl => match us, hl with | [_, _], _ => rfl
  have FAM := fun_mk (st := H8V.sAm) lAM cAM kAM
  have bAM := FAM.binds (ps := ["entries", "low", "high"]) fun _ _ _ _ _ _ us hl => match us, hl with | [_, _, _], _ => rfl
  have FWE := fun_mk (st := H8V.sWe) lWE cWE kWE
  have bWE := FWE.binds (ps := ["entries", "ranges"]) fun _ _ _ _ _ _ us hl => match us, hl with | [_, _], _ => rfl
  have FMY := fun_mk (st := sMY) lMY cMY kMY
  have bMY := FMY.binds (ps := ["feed"]) fun _ _ _ _ _ _ us hl => match us, hl with | [_], _ => rfl
  have FRT := fun_mk (st := sRT) lRT cRT kRT
  have bRT := FRT.binds (ps := ["feed", "table", "entries"]) fun _ _ _ _ _ _ us hl => match us, hl with | [_, _, _], _ => rfl
  have FTI := fun_mk (st := sTI) lTI cTI kTI
  have bTI := FTI.binds (ps := ["self", "entries"]) fun _ _ _ _ _ _ us hl => match us, hl with | [_, _], _ => rfl
  have FPA := fun_mk (st := sPA) lPA cPA kPA
  have bPA := FPA.binds (ps := ["cls", "text"]) fun _ _ _ _ _ _ us hl => match us, hl with | [_, _], _ => rfl
  have FUA := fun_mk (st := sTA) lUA cUA kUA
  have bUA := FUA.binds (ps := ["self", "low", "high"]) fun _ _ _ _ _ _ us hl => match us, hl with | [_, _, _], _ => rfl
  have FUW := fun_mk (st := sTW) lUW cUW kUW
  have bUW := FUW.binds (ps := ["self", "ranges"]) fun _ _ _ _ _ _ us hl => match us, hl with | [_, _], _ => rfl
  have FEQ := fun_mk (st := Z5K.sEQ) lEQ cEQ kEQ
  have bEQ := FEQ.binds (ps := ["self", "other"]) fun _ _ _ _ _ _ us hl => match us, hl with | [_, _], _ => rfl
  have FUS := fun_mk (st := H8T.sTS) lUS cUS kUS
  have bUS := FUS.binds (ps := ["self"]) fun _ _ _ _ _ _ us hl => match us, hl with | [_], _ => rfl
  have FLAW := fun_mk (st := Z5L.sLaw) lLAW cLAW kLAW
  have T : Z5L.Txt K mg fNU fRD fNM fRO fEO fFE fTA fPI fIV fEN fAM fWE fMY fRT CT fTI pP fPA fUA fUW fEQ fUS _ _ _ _ _ _ _ _ _ _ _ _ _ _ _ _ _ _ _ _ := ⟨FNU, PySem.W.mg_of X G aNU, kNU, bNU, FRD, PySem.W.mg_of X G aRD, kRD, bRD, FNM, PySem.W.mg_of X G aNM, kNM, bNM, FRO, PySem.W.mg_of X G aRO, kRO, bRO, FEO, PySem.W.mg_of X G aEO, kEO, bEO, FFE, PySem.W.mg_of X G aFE, kFE, bFE, FTA, PySem.W.mg_of X G aTA, kTA, bTA, FPI, PySem.W.mg_of X G aPI, kPI, bPI, FIV, PySem.W.mg_of X G aIV, kIV, bIV, FEN, PySem.W.mg_of X G aEN, kEN, bEN, FAM, PySem.W.mg_of X G aAM, kAM, bAM, FWE, PySem.W.mg_of X G aWE, kWE, bWE, FMY, PySem.W.mg_of X G aMY, kMY, bMY, FRT, PySem.W.mg_of X G aRT, kRT, bRT, PySem.W.mg_of X G aC, ⟨⟨pg, hd, po, sa⟩, na0⟩, ⟨mk, aI, iI, kc⟩, FTI, bTI, ⟨rdPA, gaPA⟩, ⟨aPA, ⟨_, rcPA⟩, fiPA⟩, FPA, bPA, ⟨aUA, iUA, kUA⟩, FUA, bUA, ⟨aUW, iUW, kUW⟩, FUW, bUW, ⟨⟨pg, hd, po, sa⟩, ihaEQ, ihnEQ, ihtEQ, ihmEQ, if_pos (beq_self_eq_true _)⟩, aEQ, iEQ, ihmEQ, neEQ, FEQ, bEQ, aUS, iUS, FUS, bUS, nftuple, nfNoneType, nfstr, nfint, nflist, kotuple, koNoneType, kostr, koint, kolist, ⟨_, PySem.W.mg_of X G agLIM, rgLIM⟩, ⟨_, PySem.W.mg_of X G agLON, rgLON⟩, ⟨_, PySem.W.mg_of X G agGRE, rgGRE⟩, PySem.W.mg_none_of X G z1, PySem.W.mg_none_of X G z2, PySem.W.mg_none_of X G z3, PySem.W.mg_none_of X G z4, PySem.W.mg_none_of X G z5, PySem.W.mg_none_of X G z6, PySem.W.mg_none_of X G z7, PySem.W.mg_none_of X G z8, PySem.W.mg_none_of X G z9, PySem.W.mg_none_of X G z10, PySem.W.mg_none_of X G z11, PySem.W.mg_none_of X G z12, PySem.W.mg_none_of X G z13⟩
  exact ⟨PySem.W.fnOf "law" "law" (defArgs Z5L.sLaw) (defBody Z5L.sLaw) (defScope Z5L.sLaw) .none kVLAW dcLAW pmLAW anLAW cdLAW ctLAW, fun s v => .of_eq rfl, fun base _ _ => Z5L.ok_law FLAW T⟩
end Z5E
open PySem PySem.W PyProof.Rows
set_option maxRecDepth 100000 in
set_option maxHeartbeats 0 in
theorem PySem.Challenge.cw_wearswings_k50_tables_holds : PySem.Challenge.rw_wearswings_k50_tables.Holds := by
  w_on; o_law; k_head; (case hw => w_witness2)
  k_fill
  refine KW.walk_kept (l := PySem.Challenge.rw_wearswings_k50_tables) (n := 63) (k := 9) (x := "script") (sp := Z5L.spLaw) rfl (by decide) rfl ⟨rfl, by decide, by decide⟩ (fun w h Y => PySem.W.kIn_of Y) ?F (fun K H a ns hl _ hS => ⟨a, ns, rfl, hS, hl, fun _ => rfl⟩)
  case F =>
    intro w mg fa h KX G hmg
    refine' Z5E.all_mk KX G hmg ?aNU ?lNU ?cNU ?kNU ?aRD ?lRD ?cRD ?kRD ?aNM ?lNM ?cNM ?kNM ?aRO ?lRO ?cRO ?kRO ?aEO ?lEO ?cEO ?kEO ?aFE ?lFE ?cFE ?kFE ?aTA ?lTA ?cTA ?kTA ?aPI ?lPI ?cPI ?kPI ?aIV ?lIV ?cIV ?kIV ?aEN ?lEN ?cEN ?kEN ?aAM ?lAM ?cAM ?kAM ?aWE ?lWE ?cWE ?kWE ?aMY ?lMY ?cMY ?kMY ?aRT ?lRT ?cRT ?kRT ?aC ?pg ?hd ?po ?sa ?na0 ?mk ?kc ?aI ?iI ?lTI ?cTI ?kTI ?rdPA ?gaPA ?aPA ?rcPA ?fiPA ?lPA ?cPA ?kPA ?aUA ?iUA ?lUA ?cUA ?kUA ?aUW ?iUW ?lUW ?cUW ?kUW ?ihaEQ ?ihnEQ ?ihtEQ ?ihmEQ ?aEQ ?iEQ ?lEQ ?cEQ ?kEQ ?neEQ ?aUS ?iUS ?lUS ?cUS ?kUS ?nftuple ?nfNoneType ?nfstr ?nfint ?nflist ?kotuple ?koNoneType ?kostr ?koint ?kolist ?agLIM ?rgLIM ?agLON ?rgLON ?agGRE ?rgGRE ?z1 ?z2 ?z3 ?z4 ?z5 ?z6 ?z7 ?z8 ?z9 ?z10 ?z11 ?z12 ?z13 ?aLAW ?lLAW ?cLAW ?kLAW
    (case aNU => k_is)
    (case lNU => k_is)
    (case cNU => k_is)
    (case kNU => k_is)
    (case aRD => k_is)
    (case lRD => k_is)
    (case cRD => k_is)
    (case kRD => k_is)
    (case aNM => k_is)
    (case lNM => k_is)
    (case cNM => k_is)
    (case kNM => k_is)
    (case aRO => k_is)
    (case lRO => k_is)
    (case cRO => k_is)
    (case kRO => k_is)
    (case aEO => k_is)
    (case lEO => k_is)
    (case cEO => k_is)
    (case kEO => k_is)
    (case aFE => k_is)
    (case lFE => k_is)
    (case cFE => k_is)
    (case kFE => k_is)
    (case aTA => k_is)
    (case lTA => k_is)
    (case cTA => k_is)
    (case kTA => k_is)
    (case aPI => k_is)
    (case lPI => k_is)
    (case cPI => k_is)
    (case kPI => k_is)
    (case aIV => k_is)
    (case lIV => k_is)
    (case cIV => k_is)
    (case kIV => k_is)
    (case aEN => k_is)
    (case lEN => k_is)
    (case cEN => k_is)
    (case kEN => k_is)
    (case aAM => k_is)
    (case lAM => k_is)
    (case cAM => k_is)
    (case kAM => k_is)
    (case aWE => k_is)
    (case lWE => k_is)
    (case cWE => k_is)
    (case kWE => k_is)
    (case aMY => k_is)
    (case lMY => k_is)
    (case cMY => k_is)
    (case kMY => k_is)
    (case aRT => k_is)
    (case lRT => k_is)
    (case cRT => k_is)
    (case kRT => k_is)
    (case aC => k_is)
    (case pg => k_is)
    (case hd => k_is)
    (case po => k_is)
    (case sa => k_is)
    (case na0 => k_is)
    (case mk => k_is)
    (case kc => k_is)
    (case aI => k_is)
    (case iI => k_is)
    (case lTI => k_is)
    (case cTI => k_is)
    (case kTI => k_is)
    (case rdPA => k_is)
    (case gaPA => k_is)
    (case aPA => k_is)
    (case rcPA => k_is)
    (case fiPA => k_is)
    (case lPA => k_is)
    (case cPA => k_is)
    (case kPA => k_is)
    (case aUA => k_is)
    (case iUA => k_is)
    (case lUA => k_is)
    (case cUA => k_is)
    (case kUA => k_is)
    (case aUW => k_is)
    (case iUW => k_is)
    (case lUW => k_is)
    (case cUW => k_is)
    (case kUW => k_is)
    (case ihaEQ => k_is)
    (case ihnEQ => k_is)
    (case ihtEQ => k_is)
    (case ihmEQ => k_is)
    (case aEQ => k_is)
    (case iEQ => k_is)
    (case lEQ => k_is)
    (case cEQ => k_is)
    (case kEQ => k_is)
    (case neEQ => k_is)
    (case aUS => k_is)
    (case iUS => k_is)
    (case lUS => k_is)
    (case cUS => k_is)
    (case kUS => k_is)
    (case nftuple => k_is)
    (case nfNoneType => k_is)
    (case nfstr => k_is)
    (case nfint => k_is)
    (case nflist => k_is)
    (case kotuple => kit_is)
    (case koNoneType => kit_is)
    (case kostr => kit_is)
    (case koint => kit_is)
    (case kolist => kit_is)
    (case agLIM => k_is)
    (case rgLIM => exact ⟨_, rfl⟩)
    (case agLON => k_is)
    (case rgLON => exact ⟨_, rfl⟩)
    (case agGRE => k_is)
    (case rgGRE => exact ⟨_, rfl⟩)
    (case z1 => k_is)
    (case z2 => k_is)
    (case z3 => k_is)
    (case z4 => k_is)
    (case z5 => k_is)
    (case z6 => k_is)
    (case z7 => k_is)
    (case z8 => k_is)
    (case z9 => k_is)
    (case z10 => k_is)
    (case z11 => k_is)
    (case z12 => k_is)
    (case z13 => k_is)
    (case aLAW => k_is)
    (case lLAW => k_is)
    (case cLAW => k_is)
    (case kLAW => k_is)

