import PyProof.Rows.All
import Wide.All
import OpenK.AllK
import Wide.FinOn
import HandS.ForMost
import HandS.Flow
import HandS.OwnEq
import HandS.More
import HandS.DictComp
import HandS.List
import KE.KEqDict
import KE.KDictKeyed
import KE.KRevSl
import PyProof.InstNe
import HandS.IsInst
import HandS.SortRule
import HandS.Property
import HandS.ClsMeth
import HandS.Star
import HandS.Codes
import HandS.Strs
import HandS.SetFor
import HandS.RaiseMore
import HandS.Wide
import HandS.Style
import HandS.Walk
import HandS.Zip
import HandS.TupAny
import HandS.Conv
import KE.DataMinMax
import HandS.SortKw
import PySem.Challenge.RW_wearswings_k52_whole_tables_grow
set_option Elab.async false
set_option linter.all false
set_option maxRecDepth 100000
set_option maxHeartbeats 16000000
/-! set(xs) of a list of ints, with the order's ledger kept (for sorted behind it) -/
namespace KS
open PySem PySem.Spec PyProof.Rows L2
abbrev leer (w : World) : Obj := { cls := .type "set", dict := none, data := .set #[] 0 (.fresh 0 0 (!w.params.followText "set-order")) }
section
variable {P : Program} {w : World} {A : Around} {E : Value → Shared → Prop} {s : Shared}
/-- what stands behind set's own __init__ -/
abbrev Made (w : World) (s : Shared) (ns : List Int) (Q : Shared → Prop) : Prop :=
  ∀ (g : Heap) (tk c : Nat), SetR w g s.heap.objs.size (fun j => decide (j ∈ ns)) c → c ≤ ns.length → (∀ b o, s.heap.get? b = some o → g.get? b = some o) → Q { s with heap := g, toks := tk }
set_option maxHeartbeats 6400000 in
theorem set_lst {l : Addr} {its : Array Value} (ns : List Int) {Q : Value → Shared → Prop} (hh : A.handled = none) (hl : s.heap.IsList l its) (hit : IntsAre its.toList ns) (hb : ns.length + 1 < scanBound)
    (h : Made w s ns (Q (.ref s.heap.objs.size))) : wpAny (model P w) A (call (.type "set") [.ref l]) Q E s := by
  have hn : its.size = ns.length := by
    rw [← Array.length_toList]; exact IntsAre.length hit
  obtain ⟨c0, t0, hm⟩ := F.called_set.mro
  have k1 := F.called_set.made; have k2 := F.called_set.sub; have k3 := F.called_set.notType; have k4 := F.called_set.canCreate; have k5 := F.typeCall_set_1 (.ref l)
  refine wpAny_call (codeAny_of_tree (show wpAny _ _ (callAny (.type "set") _) _ _ _ from ?_))
  have uu : A.under (.builtin "type.__call__" ⟨[.type "set", .ref l], []⟩) = A.in1 := Around.under_plain (weight_type_call_type "set" [.ref l] []) rfl
  refine wpAny_pure ⟨Code.quiet_builtin _ (by decide +kernel), codeAny_builtin F.entry_type_call ?_⟩
  rw [show A.under (.builtin "type.__call__" { ({ pos := [Value.ref l] } : Args) with pos := .type "set" :: [Value.ref l] }) = A.in1 from uu]
  repeat (any_goals (first | assumption | wp_step))
  have hs0 : (s.heap.push (leer w)).get? s.heap.objs.size = some (leer w) := Heap.get?_push_size _ rfl
  refine codeAny_mono (code_set_led1 (.ref l) (E := E) (Q₁ := fun x s1 => x = .ref s.heap.objs.size ∧ s1 = { s with heap := s.heap.push (leer w) }) ⟨rfl, rfl⟩) fun r1 s1 e1 => ?_
  match r1, e1 with
  | .error _, e1 => exact e1
  | .ok (.next), e1 => exact e1.elim
  | .ok (.brk), e1 => exact e1.elim
  | .ok (.cont), e1 => exact e1.elim
  | .ok (.ret x), e1 =>
    obtain ⟨rfl, rfl⟩ := e1
    have hT : Shared.TypeIs { s with heap := s.heap.push (leer w) } (.ref s.heap.objs.size) "set" := ⟨_, hs0, rfl⟩
    have j1 := F.called_set.init.lookup; have j2 := F.called_set.init.bind (.ref s.heap.objs.size)
    repeat (any_goals (first | assumption | wp_step))
    refine codeAny_mono (codeAny_call_builtin (R := wants (fun v s2 => v = .none ∧ ∃ g tk c, s2 = { s with heap := g, toks := tk } ∧ SetR w g s.heap.objs.size (fun j => decide (j ∈ ns)) c ∧ c ≤ ns.length ∧ ∀ b o, s.heap.get? b = some o → g.get? b = some o) E)
      F.called_set.init.plain F.entry_set_init (check_set_init_1 hT ?_)) fun r2 s2 e2 => ?_
    · obtain ⟨ol, a1, a2, nl, a3⟩ := hl
      obtain ⟨xc, xd, xt, xs⟩ := ol
      simp only at a2 a3
      subst a2 a3
      have a4 : (s.heap.push (leer w)).get? l = some { cls := .type "list", dict := xd, data := .seq its nl, slots := xs } := Heap.get?_push_of_some _ a1
      have b1 := F.sub_list_set; have b2 := F.sub_list_frozenset; have b3 : (Value.type "list" == Value.type "dict") = false := by decide
      have a5 : (s.heap.push (leer w)).IsList l its := ⟨_, a4, rfl, nl, rfl⟩
      unfold Builtin.«set.__init__» noKeywords Builtin.Frozenset.updateFrom
      generalize hPI : pyIter = PI
      wp_walk
      subst hPI
      refine wpAny_pyIter_list a5 (wpAny_bind (wpAny_runValue ?_))
      have lt := Heap.lt_size a1
      have sz : (s.heap.push (leer w)).objs.size = s.heap.objs.size + 1 := Heap.size_push ..
      have d1 : l ≠ (s.heap.push (leer w)).objs.size := by rw [sz]; exact Nat.ne_of_lt (Nat.lt_succ_of_lt lt)
      have d2 : s.heap.objs.size ∉ [(s.heap.push (leer w)).objs.size, l] := by
        rw [sz]; intro z; rcases List.mem_cons.mp z with z | z
        · exact absurd z (Nat.ne_of_lt (Nat.lt_succ_self _))
        · exact absurd (List.mem_singleton.mp z) (Nat.ne_of_gt lt)
      have vl : ∀ i v, its[i]? = some v → ∃ (k : Int) (t : Tok), ns[i]? = some k ∧ v = Value.int k t := fun i v e => by
        have hi : i < ns.length := by rw [← hn]; exact (Array.getElem?_eq_some_iff.mp e).1
        obtain ⟨t, et⟩ := IntsAre.int_at hit i v (by rw [Array.getElem?_toList]; exact e)
        exact ⟨ns[i], t, List.getElem?_eq_getElem hi, by rw [et, List.getD_eq_getElem?_getD, List.getElem?_eq_getElem hi]; rfl⟩
      have hq : A.in1.in1.in1.handled = none := by simp [hh]
      refine set_update_ints ((Walks.list hq _ l d1 its).toS) s.heap.objs.size d2 ns hn hb vl (its.size - 0) 0 _ (by omega) (Nat.zero_le _) ⟨⟨_, Heap.get?_push_size _ rfl, rfl, rfl⟩, a5.push _⟩
        ⟨0, Nat.le_refl 0, setR_new_at (Heap.get?_push_of_some _ hs0)⟩ fun s3 c3 mv hc3 R3 => ?_
      obtain ⟨g3, gg, dd, tk3, oo⟩ := s3
      obtain rfl : gg = s.gens := mv.gens
      obtain rfl : dd = s.drawn := mv.drawn
      obtain rfl : oo = s.os := mv.os
      refine (show wpAny _ _ _ _ _ _ from wpAny_pure (show wpAny _ _ (ret Value.none) _ _ _ from wpAny_pure ⟨rfl, g3, tk3, c3, rfl, R3, by omega, fun b o e => ?_⟩))
      have hb0 := Heap.lt_size e
      exact mv.heap b o (by rw [sz]; intro z; rcases List.mem_cons.mp z with z | z
                            · exact absurd z (Nat.ne_of_lt hb0)
                            · exact absurd (List.mem_singleton.mp z) (Nat.ne_of_lt (Nat.lt_succ_of_lt hb0))) (Heap.get?_push_of_some _ (Heap.get?_push_of_some _ e))
    · match r2, e2 with
      | .error _, e2 => exact e2
      | .ok (.next), e2 => exact e2.elim
      | .ok (.brk), e2 => exact e2.elim
      | .ok (.cont), e2 => exact e2.elim
      | .ok (.ret y), e2 =>
        obtain ⟨rfl, g, tk, c, rfl, R2, hc, hk⟩ := e2
        repeat (any_goals (first | assumption | wp_step))
        exact h _ _ _ R2 hc hk
end
section
variable {X : Cx}
/-- set(xs) of a list of ints -/
def rSetL (w : World) (K : PySem.W.Frag) : List V → Hp → VK → Prop := fun vs H Q => ∃ (a : Addr) (ns : List Int), vs = [V.ref a] ∧ SqL K H a (ns.map V.int) ∧ ns.length ≤ 1000 ∧
  ∀ (p : Addr) (c : Nat), H p = none → c ≤ ns.length → Q (.ref p) (upd H p (SetO w p (fun j => decide (j ∈ ns)) c))
theorem cr_setL (hc : X.calm = true) : CallR X (.type "set") (rSetL X.w X.K) := by
  intro pins s σ H vs us Q I r h
  obtain ⟨a, ns, rfl, hS, hlen, q⟩ := h
  rw [Vals.ref1 r]
  obtain ⟨its, rv, pl, hz⟩ := I.list hS
  refine set_lst ns (I.ok.hd hc) pl.isList (by simpa using ints_of_vals rv) (by unfold scanBound; omega) fun g tk c R hcn k => ?_
  exact ⟨.ref _, _, I.laid (t' := tk) k (Nat.le_refl _) (setO_new R), rfl, q _ c (I.hok.fresh (Nat.le_refl _)) hcn⟩
end
end KS

/-! repr(xs) of a list of ints; a law's def whose body knows that no repr is under way -/
namespace KG
open PySem PySem.Spec PyProof.Rows L2
/-! ### the text of a list of ints -/
def datL (ns : List Int) : PyData := .list (ns.map PyData.int)
def reprL (ns : List Int) : Str := (datL ns).shown
theorem small_log {i : Int} {k : Nat} (h0 : 0 < k) (h : i.natAbs < 2 ^ k) : i.natAbs.log2 < k := PySem.Flt.log2_lt_of h0 h
theorem show_all : ∀ (ns : List Int), (∀ n ∈ ns, n.natAbs < 2 ^ 40) → PyData.showableAll (ns.map PyData.int) = true
  | [], _ => rfl
  | a :: r, h => by
    have h1 : a.natAbs.log2 < 1920 := Nat.lt_of_lt_of_le (small_log (by decide) (h a List.mem_cons_self)) (by decide)
    have h2 := show_all r fun n hn => h n (List.mem_cons_of_mem _ hn)
    simp only [List.map_cons, PyData.showableAll, PyData.showable, h2, h1, decide_true, Bool.and_self]
theorem nodict_all : ∀ (ns : List Int), PyData.hasDictAll (ns.map PyData.int) = false
  | [] => rfl
  | a :: r => by simp only [List.map_cons, PyData.hasDictAll, PyData.hasDict, nodict_all r, Bool.or_self]
theorem depth_all : ∀ (ns : List Int), PyData.depthAll (ns.map PyData.int) ≤ 1
  | [] => Nat.zero_le _
  | a :: r => by
    have := depth_all r
    simp only [List.map_cons, PyData.depthAll, PyData.depth]
    omega
theorem leaves_all : ∀ (ns : List Int), (∀ n ∈ ns, n.natAbs < 10 ^ 12) → PyData.leavesShortAll 13 (ns.map PyData.int) = true
  | [], _ => rfl
  | a :: r, h => by
    have h2 := leaves_all r fun n hn => h n (List.mem_cons_of_mem _ hn)
    have h1 : (PyData.shown (.int a)).length ≤ 13 := by
      have := PySem.int_text_length_le10 (a := a) (k := 12) (by decide) (h a List.mem_cons_self)
      have e : (PyData.shown (.int a)).length = (toString a).length := by
        simp only [PyData.shown]
        exact PySem.ofString_length _
      omega
    simp only [List.map_cons, PyData.leavesShortAll, PyData.leavesShort, h2, Bool.and_true, decide_eq_true_eq]
    exact h1
theorem weight_all : ∀ (ns : List Int), (∀ n ∈ ns, n.natAbs < 2 ^ 39) → PyData.weightAll (ns.map PyData.int) ≤ 60 * ns.length
  | [], _ => Nat.le_refl _
  | a :: r, h => by
    have h1 := weight_all r fun n hn => h n (List.mem_cons_of_mem _ hn)
    have h2 : a.natAbs.log2 < 39 := small_log (by decide) (h a List.mem_cons_self)
    simp only [List.map_cons, PyData.weightAll, PyData.weight, List.length_cons]
    split <;> omega
theorem repr_fits {ns : List Int} (h : ∀ n ∈ ns, n.natAbs < 2 ^ 39) (hl : ns.length ≤ 2000) : (reprL ns).length ≤ sizeLine := by
  refine PyData.shown_fits (B := 13) (by decide) (by decide) ?_ ?_
  · show PyData.leavesShort 13 (.list _) = true
    simp only [PyData.leavesShort, leaves_all ns fun n hn => Nat.lt_trans (h n hn) (by decide)]
  · show PyData.weight (.list _) ≤ _
    have := weight_all ns h
    simp only [PyData.weight]
    omega
theorem reads_all {h : Heap} : ∀ {us : List Value} {ns : List Int}, IntsAre us ns → ReadsAll h us (ns.map PyData.int) []
  | _, _, .nil => .nil
  | _, _, .cons n t r => by
    have z := ReadsAll.cons (Reads.int (h := h) n t) (reads_all r)
    exact z
section
variable {X : Cx}
/-- repr(xs) of a list of ints, while no repr is under way -/
def rReprL (K : PySem.W.Frag) : List V → Hp → VK → Prop := fun vs H Q => ∃ (a : Addr) (ns : List Int), vs = [V.ref a] ∧ SqL K H a (ns.map V.int) ∧ (∀ n ∈ ns, n.natAbs < 2 ^ 39) ∧ ns.length ≤ 2000 ∧ Q (.str (reprL ns)) H
theorem cr_reprL (hg : X.A.guards = some []) (hu : X.A.units + 100 < cLine) : CallR X (.builtin "repr") (rReprL X.K) := by
  intro pins s σ H vs us Q I r h
  obtain ⟨a, ns, rfl, hS, hb, hl, q⟩ := h
  rw [Vals.ref1 r]
  obtain ⟨its, rv, ⟨o, n, ho, hc, hdn, hd⟩, hz⟩ := I.list hS
  have rd : Reads s.heap (.ref a) (datL ns) [a] := .list ho hc hd (reads_all (by simpa using ints_of_vals rv))
  refine repr_of_reads' rd (by show PyData.showable (.list _) = true; simp only [PyData.showable]; exact show_all ns fun m hm => Nat.lt_trans (hb m hm) (by decide)) (PyData.noDict_hsm (by show PyData.hasDict (.list _) = false; simp only [PyData.hasDict]; exact nodict_all ns)) hg
    (by have := depth_all ns; show X.A.units + (PyData.depth (.list _) + 1) < cLine; simp only [PyData.depth]; omega) (fun _ _ e => e) (fun g u tk k => ?_) (repr_fits hb hl)
  exact ⟨.str (reprL ns), H, I.kept k, ⟨u, rfl⟩, q⟩
end
end KG

/-! the def of the law itself, called where no repr is under way -/
namespace KW
open PySem PySem.Spec PyProof.Rows L2
/-- the def at f keeps sp where it is called with no repr under way -/
def Kept (P : Program) (w : World) (K : PySem.W.Frag) (mg : Str → Option Value) (base : Heap) (k : Nat) (f : Addr) (fd : FuncData) (ps : List Str) (sp : Sp) : Prop :=
  ∀ (A : Around) (outer : List Env) (s : Shared) (H : Hp) (args : Args) (us : List Value) (vs : List V) (Q : VK) (E : XK), A.guards = some [] → Room k A → Env0 P w K mg base A outer s H →
    BindsTo s fd args (ps.zip us) → Vals vs us → sp vs H Q E → codeAny (model P w) A (.call (.ref f) args) (CR CX0 outer P w H s Q E) s
section
variable {P : Program} {w : World} {K : PySem.W.Frag} {mg : Str → Option Value} {base : Heap}
theorem kept_of {x qual : Str} {st : Stmt} {f : Addr} {fd : FuncData} {N ps : List Str} {k : Nat} {sp : Sp} (F : Fun K x qual st f fd) (S : FnScope N ps (defScope st)) (len : ∀ vs H Q E, sp vs H Q E → vs.length = ps.length)
    (hb : ∀ (cdv : Value) (A : Around) (outer : List Env) (s : Shared) (H : Hp) (vs : List V) (Q : VK) (E : XK), A.guards = some [] → Room k (A.deeper (envOfC qual (defScope st) s.heap.objs.size f cdv)) → sp vs H Q E →
      ∃ t, PSs (cxOf CX0 P w K mg base N qual (defScope st) f cdv A outer s H E).nox (defBody st) t ∧ t { nx := fun _ H' => Q .non H', rt := Q } (start N vs) H) : Kept P w K mg base (k + 1) f fd ps sp := by
  obtain ⟨oc, od, kV, doc, pm, an, cdv, ct, osl, e1, lk, hcd⟩ := F.ex
  subst e1
  intro A outer s H args us vs Q E hg hr e0 bnd r hsp
  obtain ⟨t, d, q⟩ := hb cdv A outer s H vs Q E hg (hr.deeper _) hsp
  have lv := len _ _ _ _ hsp
  have kin : K.In s.heap := e0.mod.kin.keeps fun b o e => (e0.bs b o e).1
  have kd : ∀ y ∈ ps.zip us, (defScope st).names.lookup y.1 = some .local ∨ ((defScope st).names.lookup y.1 = some .cell ∧ ((cellsFrom (s.heap.objs.size + 1) (defScope st).names []).lookup y.1).isSome = true) := by
    rintro ⟨n, v⟩ hy
    exact (S.par n (List.of_mem_zip hy).1).imp id fun z => ⟨z, PySem.W.cellsFrom_some _ _ _ (.inl z)⟩
  refine codeAny_call_function hr.depth (kin _ _ lk) rfl S.co S.gen rfl (PySem.W.codeRec_of kin hcd) (bnd _ _ _ _ (wpAny_newFunctionEnv_cells S.kind kd fun env he s1 x1 => ?_))
  subst he
  refine ⟨(e0.mod.nolimit.keeps fun b o e => (e0.bs b o e).1).keeps x1.toInCall.keep, codeAny_func (wpAny_mono (d.nox.run [] s1 (start N vs) H _ (inv_start S hr.hd e0 lv r x1) q) (fun fl s2 z => ?_) fun _ _ z => z)⟩
  match fl, z with
  | .ret u, ⟨v, σ2, H2, J, rv, q2⟩ => exact ⟨v, H2, J.os, J.bare, J.base, J.hok, rv, q2⟩
  | .next, ⟨σ2, H2, J, q2⟩ => exact ⟨V.non, H2, J.os, J.bare, J.base, J.hok, rfl, q2⟩
  | .brk, ⟨_, _, _, q2⟩ => exact q2.elim
  | .cont, ⟨_, _, _, q2⟩ => exact q2.elim
/-- the heap that tracks the script alone, or nothing where it is the text's own -/
def hpOf (K : PySem.W.Frag) (a : Addr) (o : Obj) (xs : List V) : Hp := fun b => if b = a ∧ K.lookup a = none then some (.frz o (.lst xs)) else none
theorem hpOf_some {K : PySem.W.Frag} {a b : Addr} {o : Obj} {xs : List V} {u : HO} (e : hpOf K a o xs b = some u) : b = a ∧ K.lookup a = none ∧ u = .frz o (.lst xs) := by
  unfold hpOf at e
  split at e
  · rename_i z
    exact ⟨z.1, z.2, (Option.some.inj e).symm⟩
  · cases e
theorem run_law {mb : Str → Option Value} {k : Nat} {fa a : Addr} {fd : FuncData} {x : Str} {sp : Sp} {s1 : Shared} {vs : List Value} {ns : List Int}
    (kin : K.In s1.heap) (h1 : s1.heap.Ns mainGlobals mg) (h2 : s1.heap.Ns builtinsNs mb) (h3 : ∀ y : Str, y ≠ "__name__" → mb y = bootBuiltins y) (h4 : s1.heap.NoLimit) (h5 : s1.gens = #[])
    (ha : s1.heap.get? a = some { cls := .type "list", data := .seq vs.toArray }) (hi : IntsAre vs ns) (hl : ns.length ≤ sizeLine) (hr : Room k callerA)
    (F : ∀ bs : Heap, K.In bs → bs.Ns mainGlobals mg → Kept P w K mg bs k fa fd [x] sp) (hbd : ∀ (s : Shared) (u : Value), BindsTo s fd ⟨[u], []⟩ [(x, u)])
    (hsp : ∀ H : Hp, Only H → SqL K H a (ns.map V.int) → sp [.ref a] H (fun v _ => v = .bl true) fun _ _ _ => False) :
    codeAny (model P w) callerA (.call (.ref fa) ⟨[.ref a], []⟩) (fun r s' => r = .ok (.ret (.bool true)) ∧ OldK s1.heap s'.heap ∧ s'.os = s1.os ∧ AllBare s'.gens) s1 := by
  have rv := vals_ints hi
  let ob : Obj := { cls := .type "list", data := .seq vs.toArray }
  generalize hH : hpOf K a ob (ns.map V.int) = H
  have hsome : ∀ {b u}, H b = some u → b = a ∧ K.lookup a = none ∧ u = .frz ob (.lst (ns.map V.int)) := fun {b u} e => hpOf_some (by rw [hH]; exact e)
  have hO : Only H := fun b => by
    cases e : H b with
    | none => exact .inl rfl
    | some u => exact .inr ⟨_, _, by rw [(hsome e).2.2]⟩
  have hS : SqL K H a (ns.map V.int) := by
    cases e : K.lookup a with
    | none => exact .inl (.inr ⟨ob, by rw [← hH]; exact if_pos ⟨rfl, e⟩⟩)
    | some o =>
      have e2 := kin a o e
      rw [ha] at e2
      cases e2
      exact .inr ⟨_, vs.toArray, _, e, rfl, rfl, rfl, by rw [List.size_toArray, hi.length]; exact hl, by simpa using rv⟩
  have hok : HOk P w H s1.heap := fun b u e => by
    obtain ⟨rfl, _, rfl⟩ := hsome e
    exact ⟨ha, by rw [List.length_map]; exact hl, vs, _, rv, ha⟩
  have free : ∀ {b : Addr} {o : Obj} {es : Array DictEntry} {ep : Nat}, s1.heap.get? b = some o → o.data = .dict es ep → H b = none := fun {b o es ep} e d => by
    cases z : H b with
    | none => rfl
    | some u =>
      obtain ⟨rfl, _, _⟩ := hsome z
      rw [ha] at e
      cases e
      cases d
  have toB : ∀ {b : Addr} {m : Str → Option Value}, s1.heap.Ns b m → (hidT s1.heap H).Ns b m := fun {b m} ⟨o, es, ep, e, d, r⟩ => ⟨o, es, ep, hidT_get e (free e d), d, r⟩
  have kB : K.In (hidT s1.heap H) := fun b o e => hidT_get (kin b o e) (by
    cases z : H b with
    | none => rfl
    | some u =>
      obtain ⟨rfl, z2, _⟩ := hsome z
      rw [z2] at e
      cases e)
  obtain ⟨mc, m1, m2⟩ := h4
  have e0 : Env0 P w K mg (hidT s1.heap H) callerA [] s1 H := ⟨rfl, ⟨kB, toB h1, ⟨mb, toB h2, h3⟩, ⟨mc, toB m1, m2⟩⟩, fun b o e => of_hidT e, Nat.le_of_eq (hidT_size _ _), trivial, fun b hb => (List.not_mem_nil (show b ∈ ([] : List Addr) from hb)).elim, hok, .of_eq h5⟩
  refine codeAny_mono (F _ kB (toB h1) callerA [] s1 H ⟨[.ref a], []⟩ [.ref a] [.ref a] _ _ rfl hr e0 (hbd s1 (.ref a)) (.cons rfl .nil) (hsp H hO hS)) fun r s2 z => ?_
  match r, z with
  | .error _, z => exact z.elim
  | .ok .next, z => exact z.elim
  | .ok .brk, z => exact z.elim
  | .ok .cont, z => exact z.elim
  | .ok (.ret u), ⟨v, H2, os, bare, un, hok2, rr, q⟩ =>
    have q2 : v = .bl true := q
    subst q2
    obtain rfl : u = Value.bool true := rr
    refine ⟨rfl, OldK.of_keep fun b o e => ?_, os, bare⟩
    cases z : H b with
    | none => exact un.keep b o e z (fun m => (List.not_mem_nil (show b ∈ ([] : List Addr) from m)).elim) (by simp)
    | some u =>
      obtain ⟨_, _, rfl⟩ := hsome z
      have t1 := (hok b _ z).1
      have t2 := (hok2 b _ (un.frzs b ob _ z)).1
      rw [e] at t1
      rw [t2, ← t1]
/-- the end: the law's promise over the written part alone -/
theorem walk_kept {l : PySem.W.OpenLaw} {n k : Nat} {q : Program} {loose : List Str} {XP : (Str → Option Value) → Heap → Prop} {YP : World → Heap → Prop} {d : DefRec} {KK : Params → PySem.W.Frag} {sp : PySem.W.Frag → Sp} {x : Str}
    (hn : l.most = some n) (hn2 : n ≤ sizeLine) (hdf : d.params.defaults = []) (hr : Room k callerA) (hY : ∀ (w : World) (h : Heap), YP w h → (KK w.params).In h)
    (F : ∀ (w : World) (mg : Str → Option Value) (fa : Addr) (h : Heap), (KK w.params).In h → h.Ns mainGlobals mg → mg d.name = some (.ref fa) →
      ∃ fd : FuncData, (∀ (s : Shared) (u : Value), BindsTo s fd ⟨[u], []⟩ [(x, u)]) ∧ ∀ bs : Heap, (KK w.params).In bs → bs.Ns mainGlobals mg → Kept l.prog w (KK w.params) mg bs k fa fd [x] (sp (KK w.params)))
    (hsp : ∀ (K : PySem.W.Frag) (H : Hp) (a : Addr) (ns : List Int), ns.length ≤ n → Only H → SqL K H a (ns.map V.int) → sp K [.ref a] H (fun v _ => v = .bl true) fun _ _ _ => False) :
    PySem.W.WalkO q loose XP YP l.row.toRowW d [] (fun f vs => PySem.call f vs) := by
  refine Att.attach_call hn hdf fun w s0 s1 mg mb fa o pm cd doc a vs ns G Y ho hd hcd hmg hobj hints hlen hg => ?_
  obtain ⟨fd, hb, hF⟩ := F w mg fa _ (hY w _ Y) G.T.g hmg
  exact run_law (hY w _ Y) G.T.g G.T.b G.T.builtins G.T.nolimit hg hobj hints (Nat.le_trans hlen hn2) hr hF hb fun H hO hS => hsp (KK w.params) H a ns hlen hO hS
end
end KW

/-! changes of a load, as mathematics -/
namespace KM
/-- how often a letter differs from the one before, the first of all being a -/
def cf : Bool → List Bool → Nat
  | _, [] => 0
  | a, b :: r => (if a = b then 0 else 1) + cf b r
def cnt : List Bool → Nat
  | [] => 0
  | a :: r => cf a r
def cfO : Option Bool → List Bool → Nat
  | none, l => cnt l
  | some a, l => cf a l
/-- the letter of a reading: true for L -/
def lett (lo hi : Int) (r : Int) : Option Bool := if r ≤ lo then some true else if hi ≤ r then some false else none
def lets (lo hi : Int) (ns : List Int) : List Bool := ns.filterMap (lett lo hi)
def chg (ns : List Int) (lo hi : Int) : Nat := cnt (lets lo hi ns)
theorem cf_tri (a b : Bool) : ∀ l : List Bool, cf a l ≤ (if a = b then 0 else 1) + cf b l
  | [] => Nat.zero_le _
  | c :: r => by
    simp only [cf]
    cases a <;> cases b <;> cases c <;> simp <;> omega
theorem cf_mono : ∀ {l m : List Bool}, l.Sublist m → ∀ a, cf a l ≤ cf a m := by
  intro l m h
  induction h with
  | slnil => intro a; exact Nat.le_refl _
  | @cons l m b h ih =>
    intro a
    have h1 := cf_tri a b l
    have h2 := ih b
    simp only [cf]
    omega
  | @cons_cons l m b h ih =>
    intro a
    have h2 := ih b
    simp only [cf]
    omega
theorem cnt_mono : ∀ {l m : List Bool}, l.Sublist m → cnt l ≤ cnt m := by
  intro l m h
  induction h with
  | slnil => exact Nat.le_refl _
  | @cons l m b h ih =>
    cases m with
    | nil =>
      cases h
      exact Nat.le_refl _
    | cons d r =>
      show cnt l ≤ (if b = d then 0 else 1) + cf d r
      have : cnt (d :: r) = cf d r := rfl
      omega
  | @cons_cons l m b h ih => exact cf_mono h b
theorem lets_sub {lo hi lo2 hi2 : Int} (h1 : lo ≤ lo2) (h2 : hi2 ≤ hi) (h3 : lo2 < hi2) : ∀ ns : List Int, (lets lo hi ns).Sublist (lets lo2 hi2 ns)
  | [] => .slnil
  | r :: t => by
    have ih := lets_sub h1 h2 h3 t
    have key : lett lo hi r = none ∨ lett lo hi r = lett lo2 hi2 r := by
      unfold lett
      by_cases a : r ≤ lo
      · right
        rw [if_pos a, if_pos (by omega)]
      · rw [if_neg a]
        by_cases b : hi ≤ r
        · right
          rw [if_pos b, if_neg (by omega), if_pos (by omega)]
        · left
          rw [if_neg b]
    show ((r :: t).filterMap (lett lo hi)).Sublist ((r :: t).filterMap (lett lo2 hi2))
    rw [List.filterMap_cons, List.filterMap_cons]
    rcases key with e | e
    · rw [e]
      dsimp only
      cases lett lo2 hi2 r with
      | none => exact ih
      | some b => exact .cons _ ih
    · rw [← e]
      cases lett lo hi r with
      | none => exact ih
      | some b => exact .cons_cons _ ih
theorem chg_range {lo hi lo2 hi2 : Int} (h1 : lo ≤ lo2) (h2 : hi2 ≤ hi) (h3 : lo2 < hi2) (ns : List Int) : chg ns lo hi ≤ chg ns lo2 hi2 := cnt_mono (lets_sub h1 h2 h3 ns)
theorem chg_sub {l m : List Int} (h : l.Sublist m) (lo hi : Int) : chg l lo hi ≤ chg m lo hi := cnt_mono (h.filterMap _)
theorem chg_put (ns : List Int) (k : Nat) (v lo hi : Int) : chg ns lo hi ≤ chg (ns.take k ++ [v] ++ ns.drop k) lo hi := by
  refine chg_sub ?_ lo hi
  have e : ns = ns.take k ++ ns.drop k := (List.take_append_drop k ns).symm
  have h1 : (ns.take k).Sublist (ns.take k ++ [v]) := List.sublist_append_left _ _
  have h2 := h1.append (List.Sublist.refl (ns.drop k))
  rw [List.take_append_drop] at h2
  exact h2
theorem lets_drop {lo hi : Int} {ns : List Int} {i : Nat} {r : Int} (h : ns[i]? = some r) : lets lo hi (ns.drop i) = (match lett lo hi r with | none => lets lo hi (ns.drop (i + 1)) | some b => b :: lets lo hi (ns.drop (i + 1))) := by
  obtain ⟨h1, h2⟩ := List.getElem?_eq_some_iff.mp h
  rw [List.drop_eq_getElem_cons h1, h2]
  unfold lets
  rw [List.filterMap_cons]
  cases lett lo hi r <;> rfl
theorem lets_take {lo hi : Int} {ns : List Int} {i : Nat} {r : Int} (h : ns[i]? = some r) : lets lo hi (ns.take (i + 1)) = (match lett lo hi r with | none => lets lo hi (ns.take i) | some b => lets lo hi (ns.take i) ++ [b]) := by
  rw [List.take_add_one, h]
  unfold lets
  rw [List.filterMap_append]
  show _ ++ List.filterMap _ [r] = _
  rw [List.filterMap_cons]
  cases lett lo hi r with
  | none => simp
  | some b => rfl
theorem lets_len (lo hi : Int) (ns : List Int) : (lets lo hi ns).length ≤ ns.length := List.length_filterMap_le _ _
/-- the number of turns of a zip with itself, one on, whose two differ -/
theorem cnt_drop {l : List Bool} {i : Nat} {a b : Bool} (h1 : l[i]? = some a) (h2 : l[i + 1]? = some b) : cnt (l.drop i) = (if a = b then 0 else 1) + cnt (l.drop (i + 1)) := by
  obtain ⟨k1, e1⟩ := List.getElem?_eq_some_iff.mp h1
  obtain ⟨k2, e2⟩ := List.getElem?_eq_some_iff.mp h2
  rw [List.drop_eq_getElem_cons k1, e1, List.drop_eq_getElem_cons k2, e2]
  rfl
theorem cnt_end {l : List Bool} {i : Nat} (h : l.length ≤ i + 1) : cnt (l.drop i) = 0 := by
  have : (l.drop i).length ≤ 1 := by rw [List.length_drop]; omega
  match l.drop i, this with
  | [], _ => rfl
  | [_], _ => rfl
end KM

/-! turning points, as mathematics: the stack's way and the law's way -/
namespace PM
/-- r lies between its neighbours b and a -/
abbrev Btw (r b a : Int) : Prop := (b < r ∧ r < a) ∨ (a < r ∧ r < b)
/-- the stack's way from b, a (a on top) on -/
def tq : Int → Int → List Int → List Int
  | _, a, [] => [a]
  | b, a, r :: l => if a = r then tq b a l else if Btw a b r then tq b r l else a :: tq a r l
def ts : Int → List Int → List Int
  | a, [] => [a]
  | a, r :: l => if a = r then ts a l else a :: tq a r l
def tp : List Int → List Int
  | [] => []
  | x :: l => ts x l
/-- repeated readings once -/
def ddf : Int → List Int → List Int
  | _, [] => []
  | p, x :: l => if x = p then ddf p l else x :: ddf x l
def dd : List Int → List Int
  | [] => []
  | x :: l => x :: ddf x l
/-- the law's way, over readings that differ from their neighbours -/
def lq : Int → Int → List Int → List Int
  | _, c, [] => [c]
  | p, c, d :: l => if (decide (c > p) = decide (c > d)) then c :: lq c d l else lq c d l
def lp : List Int → List Int
  | [] => []
  | [x] => [x]
  | x :: y :: l => x :: lq x y l
theorem tq_lq : ∀ (l : List Int) (b p a : Int), a ≠ b → a ≠ p → (a > b ↔ a > p) → tq b a l = lq p a (ddf a l)
  | [], _, _, _, _, _, _ => rfl
  | r :: l, b, p, a, h1, h2, h3 => by
    simp only [tq, ddf]
    by_cases e : a = r
    · rw [if_pos e, if_pos e.symm]
      exact tq_lq l b p a h1 h2 h3
    · rw [if_neg e, if_neg (show ¬ r = a from fun z => e z.symm)]
      simp only [lq]
      by_cases bt : Btw a b r
      · rw [if_pos bt]
        have hk : ¬ (decide (a > p) = decide (a > r)) := by
          intro z
          rw [decide_eq_decide] at z
          omega
        rw [if_neg hk]
        exact tq_lq l b a r (by omega) (fun z => e z.symm) (by omega)
      · rw [if_neg bt]
        have hk : decide (a > p) = decide (a > r) := by
          rw [decide_eq_decide]
          omega
        rw [if_pos hk]
        rw [tq_lq l a a r (fun z => e z.symm) (fun z => e z.symm) Iff.rfl]
theorem ts_lp : ∀ (l : List Int) (a : Int), ts a l = lp (a :: ddf a l)
  | [], _ => rfl
  | r :: l, a => by
    simp only [ts, ddf]
    by_cases e : a = r
    · rw [if_pos e, if_pos e.symm]
      exact ts_lp l a
    · rw [if_neg e, if_neg (show ¬ r = a from fun z => e z.symm)]
      rw [tq_lq l a a r (fun z => e z.symm) (fun z => e z.symm) Iff.rfl]
      rfl
theorem tp_lp (ns : List Int) : tp ns = lp (dd ns) := by
  cases ns with
  | nil => rfl
  | cons a l => exact ts_lp l a
/-- what the stack leaves, goes through the stack as it is -/
theorem tq_again : ∀ (l : List Int) (b a : Int), a ≠ b → ∃ x s, tq b a l = x :: s ∧ x ≠ b ∧ (x > b ↔ a > b) ∧ tq b x s = x :: s
  | [], b, a, h => ⟨a, [], rfl, h, Iff.rfl, rfl⟩
  | r :: l, b, a, h => by
    simp only [tq]
    by_cases e : a = r
    · rw [if_pos e]
      exact tq_again l b a h
    · rw [if_neg e]
      by_cases bt : Btw a b r
      · rw [if_pos bt]
        obtain ⟨x, s, h1, h2, h3, h4⟩ := tq_again l b r (by omega)
        exact ⟨x, s, h1, h2, by omega, h4⟩
      · rw [if_neg bt]
        obtain ⟨y, s, h1, h2, h3, h4⟩ := tq_again l a r (fun z => e z.symm)
        refine ⟨a, y :: s, by rw [h1], h, Iff.rfl, ?_⟩
        simp only [tq]
        have n1 : ¬ Btw a b y := by
          intro z
          have h6 : r > a ↔ y > a := h3.symm
          omega
        rw [if_neg (fun z : a = y => h2 z.symm), if_neg n1, h4]
theorem ts_again : ∀ (l : List Int) (a : Int), tp (ts a l) = ts a l
  | [], _ => rfl
  | r :: l, a => by
    simp only [ts]
    by_cases e : a = r
    · rw [if_pos e]
      exact ts_again l a
    · rw [if_neg e]
      obtain ⟨x, s, h1, h2, _, h4⟩ := tq_again l a r (fun z => e z.symm)
      rw [h1]
      show ts a (x :: s) = a :: x :: s
      simp only [ts]
      rw [if_neg (fun z : a = x => h2 z.symm), h4]
theorem tp_again (ns : List Int) : tp (tp ns) = tp ns := by
  cases ns with
  | nil => rfl
  | cons a l => exact ts_again l a
theorem tq_last : ∀ (l : List Int) (b a z : Int), (a :: l).getLast? = some z → tq b a (l ++ [z]) = tq b a l
  | [], b, a, z, h => by
    have e : a = z := Option.some.inj h
    subst e
    show tq b a [a] = [a]
    simp only [tq, if_true]
  | r :: l, b, a, z, h => by
    have h2 : (r :: l).getLast? = some z := by rw [List.getLast?_cons_cons] at h; exact h
    show tq b a (r :: (l ++ [z])) = tq b a (r :: l)
    simp only [tq]
    by_cases e : a = r
    · rw [if_pos e, if_pos e]
      subst e
      exact tq_last l b a z h2
    · rw [if_neg e, if_neg e, tq_last l b r z h2, tq_last l a r z h2]
theorem ts_last : ∀ (l : List Int) (a z : Int), (a :: l).getLast? = some z → ts a (l ++ [z]) = ts a l
  | [], a, z, h => by
    have e : a = z := Option.some.inj h
    subst e
    show ts a [a] = [a]
    simp only [ts, if_true]
  | r :: l, a, z, h => by
    have h2 : (r :: l).getLast? = some z := by rw [List.getLast?_cons_cons] at h; exact h
    show ts a (r :: (l ++ [z])) = ts a (r :: l)
    simp only [ts]
    by_cases e : a = r
    · rw [if_pos e, if_pos e]
      subst e
      exact ts_last l a z h2
    · rw [if_neg e, if_neg e, tq_last l a r z h2]
theorem tp_last (ns : List Int) (z : Int) (h : ns.getLast? = some z) : tp (ns ++ [z]) = tp ns := by
  cases ns with
  | nil => simp at h
  | cons a l => exact ts_last l a z h
/-- sizes and bounds -/
theorem tq_mem : ∀ (l : List Int) (b a x : Int), x ∈ tq b a l → x = a ∨ x ∈ l
  | [], _, _, x, h => .inl (List.mem_singleton.mp h)
  | r :: l, b, a, x, h => by
    simp only [tq] at h
    split at h
    · rcases tq_mem l b a x h with z | z
      · exact .inl z
      · exact .inr (List.mem_cons_of_mem _ z)
    · split at h
      · rcases tq_mem l b r x h with z | z
        · rw [z]; exact .inr List.mem_cons_self
        · exact .inr (List.mem_cons_of_mem _ z)
      · rcases List.mem_cons.mp h with z | z
        · exact .inl z
        · rcases tq_mem l a r x z with z | z
          · rw [z]; exact .inr List.mem_cons_self
          · exact .inr (List.mem_cons_of_mem _ z)
theorem tq_len : ∀ (l : List Int) (b a : Int), (tq b a l).length ≤ l.length + 1
  | [], _, _ => Nat.le_refl _
  | r :: l, b, a => by
    have h1 := tq_len l b a
    have h2 := tq_len l b r
    have h3 := tq_len l a r
    simp only [tq, List.length_cons]
    split
    · omega
    · split
      · omega
      · rw [List.length_cons]; omega
theorem ts_mem : ∀ (l : List Int) (a x : Int), x ∈ ts a l → x = a ∨ x ∈ l
  | [], _, x, h => .inl (List.mem_singleton.mp h)
  | r :: l, a, x, h => by
    simp only [ts] at h
    split at h
    · rcases ts_mem l a x h with z | z
      · exact .inl z
      · exact .inr (List.mem_cons_of_mem _ z)
    · rcases List.mem_cons.mp h with z | z
      · exact .inl z
      · rcases tq_mem l a r x z with z | z
        · rw [z]; exact .inr List.mem_cons_self
        · exact .inr (List.mem_cons_of_mem _ z)
theorem ts_len : ∀ (l : List Int) (a : Int), (ts a l).length ≤ l.length + 1
  | [], _ => Nat.le_refl _
  | r :: l, a => by
    have h1 := ts_len l a
    have h2 := tq_len l a r
    simp only [ts, List.length_cons]
    split
    · omega
    · rw [List.length_cons]; omega
theorem tp_mem {ns : List Int} {x : Int} (h : x ∈ tp ns) : x ∈ ns := by
  cases ns with
  | nil => exact h
  | cons a l =>
    rcases ts_mem l a x h with z | z
    · rw [z]; exact List.mem_cons_self
    · exact List.mem_cons_of_mem _ z
theorem tp_len (ns : List Int) : (tp ns).length ≤ ns.length := by
  cases ns with
  | nil => exact Nat.le_refl _
  | cons a l => exact ts_len l a
/-- the swings of turning points -/
def rg (a b : Int) : Int × Int := (if b < a then b else a, if b > a then b else a)
def sw : List Int → List (Int × Int)
  | x :: y :: l => rg x y :: sw (y :: l)
  | _ => []
theorem sw_len : ∀ ps : List Int, (sw ps).length = ps.length - 1
  | [] => rfl
  | [_] => rfl
  | x :: y :: l => by
    have := sw_len (y :: l)
    simp only [sw, List.length_cons] at this ⊢
    omega
theorem sw_take : ∀ (ps : List Int) (i : Nat) (x y : Int), ps[i]? = some x → ps[i + 1]? = some y → (sw ps).take (i + 1) = (sw ps).take i ++ [rg x y]
  | [], _, _, _, h, _ => by simp at h
  | [_], 0, _, _, _, h => by simp at h
  | [_], i + 1, _, _, h, _ => by simp at h
  | a :: b :: l, 0, x, y, h, h2 => by
    have e1 : a = x := Option.some.inj h
    have e2 : b = y := Option.some.inj h2
    subst e1 e2
    rfl
  | a :: b :: l, i + 1, x, y, h, h2 => by
    have ih := sw_take (b :: l) i x y h h2
    show rg a b :: (sw (b :: l)).take (i + 1) = rg a b :: (sw (b :: l)).take i ++ [rg x y]
    rw [ih]
    rfl
theorem sw_mem : ∀ (ps : List Int) (B : Nat), (∀ x ∈ ps, x.natAbs < B) → ∀ r ∈ sw ps, r.1.natAbs < B ∧ r.2.natAbs < B
  | [], _, _, r, h => by simp [sw] at h
  | [_], _, _, r, h => by simp [sw] at h
  | x :: y :: l, B, hb, r, h => by
    rcases List.mem_cons.mp (show r ∈ rg x y :: sw (y :: l) from h) with z | z
    · have h1 := hb x List.mem_cons_self
      have h2 := hb y (List.mem_cons_of_mem _ List.mem_cons_self)
      rw [z]
      unfold rg
      constructor <;> (dsimp only; split <;> assumption)
    · exact sw_mem (y :: l) B (fun x hx => hb x (List.mem_cons_of_mem _ hx)) r z
end PM

/-! heaps; the texts of data; a walk over two tuples -/
namespace KA
open PySem PySem.Spec PyProof.Rows L2
theorem same_new {H : Hp} {p : Addr} {o : HO} (h : H p = none) : Same H (upd H p o) := fun b x e => by
  rw [upd_ne (ne_of_none e h)]
  exact e
theorem same_again {H0 H : Hp} {p : Addr} {o : HO} (h : H0 p = none) (s : Same H0 H) : Same H0 (upd H p o) := fun b x e => by
  rw [upd_ne (ne_of_none e h)]
  exact s b x e
theorem SqT_same {K : PySem.W.Frag} {H H' : Hp} {a : Addr} {xs : List V} (e : Same H H') (h : SqT K H a xs) : SqT K H' a xs := by
  rcases h with (h | ⟨o, h⟩) | h
  · exact .inl (.inl (e _ _ h))
  · exact .inl (.inr ⟨o, e _ _ h⟩)
  · exact .inr h
theorem int_at {ns : List Int} {i : Nat} {x : V} (h : (ns.map V.int)[i]? = some x) : ∃ r, ns[i]? = some r ∧ x = .int r := by
  rw [List.getElem?_map] at h
  cases e : ns[i]? with
  | none => rw [e] at h; cases h
  | some r => rw [e] at h; exact ⟨r, rfl, (Option.some.inj h).symm⟩
theorem small3000 {n : Nat} (h : n ≤ 3000) : n < sizeLine := Nat.lt_of_le_of_lt h (by decide)
theorem at_int {ns : List Int} {i : Nat} {r : Int} (h : ns[i]? = some r) : (ns.map V.int)[i]? = some (.int r) := by
  rw [List.getElem?_map, h]
  rfl
end KA
namespace KB
end KB
namespace PH
open PySem PySem.Spec PyProof.Rows L2 KA
/-- a list or a tuple of xs stands at a -/
def Sq (K : PySem.W.Frag) (H : Hp) (a : Addr) (xs : List V) : Prop := SqL K H a xs ∨ SqT K H a xs
theorem Sq.same {K : PySem.W.Frag} {H H' : Hp} {a : Addr} {xs : List V} (h : Sq K H a xs) (e : Same H H') : Sq K H' a xs := h.elim (fun z => .inl (e.seq z)) (fun z => .inr (SqT_same e z))
/-- pairs of ints stand at the refs of xs -/
def PairsAt (H : Hp) : List V → List (Int × Int) → Prop
  | [], [] => True
  | x :: xs, r :: rs => (∃ p, x = .ref p ∧ H p = some (.tup [.int r.1, .int r.2])) ∧ PairsAt H xs rs
  | _, _ => False
theorem PairsAt.same {H H' : Hp} (e : Same H H') : ∀ {xs : List V} {rs : List (Int × Int)}, PairsAt H xs rs → PairsAt H' xs rs
  | [], [], _ => trivial
  | x :: xs, r :: rs, ⟨⟨p, h1, h2⟩, h3⟩ => ⟨⟨p, h1, e _ _ h2⟩, PairsAt.same e h3⟩
  | [], _ :: _, h => h.elim
  | _ :: _, [], h => h.elim
theorem PairsAt.length {H : Hp} : ∀ {xs : List V} {rs : List (Int × Int)}, PairsAt H xs rs → xs.length = rs.length
  | [], [], _ => rfl
  | x :: xs, r :: rs, ⟨_, h3⟩ => by rw [List.length_cons, List.length_cons, PairsAt.length h3]
  | [], _ :: _, h => h.elim
  | _ :: _, [], h => h.elim
theorem PairsAt.append {H : Hp} : ∀ {xs ys : List V} {rs ss : List (Int × Int)}, PairsAt H xs rs → PairsAt H ys ss → PairsAt H (xs ++ ys) (rs ++ ss)
  | [], _, [], _, _, h => h
  | x :: xs, _, r :: rs, _, ⟨h1, h2⟩, h => ⟨h1, PairsAt.append h2 h⟩
  | [], _, _ :: _, _, h, _ => h.elim
  | _ :: _, _, [], _, h, _ => h.elim
theorem PairsAt.take {H : Hp} : ∀ {xs : List V} {rs : List (Int × Int)} (n : Nat), PairsAt H xs rs → PairsAt H (xs.take n) (rs.take n)
  | [], [], n, _ => by simp [PairsAt]
  | x :: xs, r :: rs, 0, _ => trivial
  | x :: xs, r :: rs, n + 1, ⟨h1, h2⟩ => ⟨h1, PairsAt.take n h2⟩
  | [], _ :: _, _, h => h.elim
  | _ :: _, [], _, h => h.elim
theorem PairsAt.get {H : Hp} : ∀ {xs : List V} {rs : List (Int × Int)} {i : Nat} {x : V}, PairsAt H xs rs → xs[i]? = some x → ∃ p a b, x = .ref p ∧ H p = some (.tup [.int a, .int b])
  | x :: xs, r :: rs, 0, y, ⟨⟨p, h1, h2⟩, _⟩, e => ⟨p, r.1, r.2, by rw [← h1]; exact (Option.some.inj e).symm, h2⟩
  | x :: xs, r :: rs, i + 1, y, ⟨_, h⟩, e => PairsAt.get h e
  | [], [], i, y, _, e => by simp at e
  | [], _ :: _, _, _, h, _ => h.elim
  | _ :: _, [], _, _, h, _ => h.elim
/-! ### data -/
def dInts (ns : List Int) : List PyData := ns.map PyData.int
def dPairs (rs : List (Int × Int)) : List PyData := rs.map fun r => .tuple [.int r.1, .int r.2]
theorem dp_ints {K : PySem.W.Frag} {H : Hp} : ∀ ns : List Int, DpAll K H (ns.map V.int) (dInts ns)
  | [] => .nil
  | n :: ns => .cons (.int n) (dp_ints ns)
theorem dp_pairs {K : PySem.W.Frag} {H : Hp} : ∀ {xs : List V} {rs : List (Int × Int)}, PairsAt H xs rs → DpAll K H xs (dPairs rs)
  | [], [], _ => .nil
  | x :: xs, r :: rs, ⟨⟨p, h1, h2⟩, h3⟩ => by
    subst h1
    exact .cons (.tup (SqT.of h2) (.cons (.int _) (.cons (.int _) .nil))) (dp_pairs h3)
  | [], _ :: _, h => h.elim
  | _ :: _, [], h => h.elim
theorem lay_ints : ∀ ns : List Int, PyData.canLayAll0 (dInts ns) = true
  | [] => rfl
  | n :: ns => by
    show (PyData.canLay0 (.int n) && PyData.canLayAll0 (dInts ns)) = true
    rw [lay_ints ns]
    simp only [PyData.canLay0, Bool.and_true]
theorem lay_pairs : ∀ rs : List (Int × Int), PyData.canLayAll0 (dPairs rs) = true
  | [] => rfl
  | r :: rs => by
    show (PyData.canLay0 (.tuple [.int r.1, .int r.2]) && PyData.canLayAll0 (dPairs rs)) = true
    rw [lay_pairs rs]
    simp only [PyData.canLay0, PyData.canLayAll0, Bool.and_true]
theorem depth_pairs : ∀ rs : List (Int × Int), PyData.depthAll (dPairs rs) ≤ 3
  | [] => Nat.zero_le _
  | r :: rs => by
    have h := depth_pairs rs
    show max (PyData.depth (.tuple [.int r.1, .int r.2])) (PyData.depthAll (dPairs rs)) ≤ 3
    simp only [PyData.depth, PyData.depthAll]
    omega
theorem shaped_of {d : PyData} (h1 : d.canLay0 = true) (h2 : d.depth ≤ 64) : SeqAt.shaped d = true := by
  unfold SeqAt.shaped
  rw [h1, decide_eq_true h2]
  rfl
theorem shaped_lst (ns : List Int) : SeqAt.shaped (.list (dInts ns)) = true :=
  shaped_of (by simp only [PyData.canLay0, lay_ints]) (by have := KG.depth_all ns; show PyData.depth (.list (ns.map PyData.int)) ≤ 64; simp only [PyData.depth]; omega)
theorem shaped_tup (ns : List Int) : SeqAt.shaped (.tuple (dInts ns)) = true :=
  shaped_of (by simp only [PyData.canLay0, lay_ints]) (by have := KG.depth_all ns; show PyData.depth (.tuple (ns.map PyData.int)) ≤ 64; simp only [PyData.depth]; omega)
theorem shaped_prs (rs : List (Int × Int)) : SeqAt.shaped (.list (dPairs rs)) = true :=
  shaped_of (by simp only [PyData.canLay0, lay_pairs]) (by have := depth_pairs rs; simp only [PyData.depth]; omega)
theorem eqv_same {d : PyData} (h : SeqAt.shaped d = true) : PyData.eqv d d = true := by
  refine SeqAt.eqv_refl d ?_
  unfold SeqAt.shaped at h
  rw [Bool.and_eq_true] at h
  exact h.1
/-- what repr asks of data -/
structure Nice (d : PyData) : Prop where
  show' : d.showable = true
  dict : d.hasDict = false
  depth : d.depth ≤ 10
  fits : d.shown.length ≤ sizeLine
theorem nice_lst {ns : List Int} (h : ∀ n ∈ ns, n.natAbs < 2 ^ 39) (hl : ns.length ≤ 2000) : Nice (.list (dInts ns)) :=
  ⟨by simp only [PyData.showable]; exact KG.show_all ns fun m hm => Nat.lt_trans (h m hm) (by decide), by simp only [PyData.hasDict]; exact KG.nodict_all ns,
    by have := KG.depth_all ns; show PyData.depth (.list (ns.map PyData.int)) ≤ 10; simp only [PyData.depth]; omega, KG.repr_fits h hl⟩
theorem nice_tup {ns : List Int} (h : ∀ n ∈ ns, n.natAbs < 2 ^ 39) (hl : ns.length ≤ 2000) : Nice (.tuple (dInts ns)) :=
  ⟨by simp only [PyData.showable]; exact KG.show_all ns fun m hm => Nat.lt_trans (h m hm) (by decide), by simp only [PyData.hasDict]; exact KG.nodict_all ns,
    by have := KG.depth_all ns; show PyData.depth (.tuple (ns.map PyData.int)) ≤ 10; simp only [PyData.depth]; omega, by
      refine PyData.shown_fits (B := 13) (by decide) (by decide) ?_ ?_
      · simp only [PyData.leavesShort]
        exact KG.leaves_all ns fun n hn => Nat.lt_trans (h n hn) (by decide)
      · have := KG.weight_all ns h
        show PyData.weight (.tuple (ns.map PyData.int)) ≤ _
        simp only [PyData.weight]
        omega⟩
theorem leaf_int {a : Int} (h : a.natAbs < 2 ^ 39) : PyData.leavesShort 13 (.int a) = true := by
  have := KG.leaves_all [a] fun n hn => by rw [List.mem_singleton.mp hn]; exact Nat.lt_trans h (by decide)
  simpa only [List.map_cons, List.map_nil, PyData.leavesShortAll, Bool.and_true] using this
theorem show_int {a : Int} (h : a.natAbs < 2 ^ 39) : PyData.showable (.int a) = true := by
  have := KG.show_all [a] fun n hn => by rw [List.mem_singleton.mp hn]; exact Nat.lt_trans h (by decide)
  simpa only [List.map_cons, List.map_nil, PyData.showableAll, Bool.and_true] using this
theorem weight_int {a : Int} (h : a.natAbs < 2 ^ 39) : PyData.weight (.int a) + 1 ≤ 60 := by
  have := KG.weight_all [a] fun n hn => by rw [List.mem_singleton.mp hn]; exact h
  simp only [List.map_cons, List.map_nil, PyData.weightAll, List.length_singleton] at this
  omega
theorem pairs_show : ∀ rs : List (Int × Int), (∀ r ∈ rs, r.1.natAbs < 2 ^ 39 ∧ r.2.natAbs < 2 ^ 39) → PyData.showableAll (dPairs rs) = true
  | [], _ => rfl
  | r :: rs, h => by
    have h1 := h r List.mem_cons_self
    show (PyData.showable (.tuple [.int r.1, .int r.2]) && PyData.showableAll (dPairs rs)) = true
    rw [pairs_show rs fun x hx => h x (List.mem_cons_of_mem _ hx)]
    have e1 := show_int h1.1
    have e2 := show_int h1.2
    simp only [PyData.showable, PyData.showableAll] at e1 e2 ⊢
    rw [e1, e2]
    rfl
theorem pairs_dict : ∀ rs : List (Int × Int), PyData.hasDictAll (dPairs rs) = false
  | [] => rfl
  | r :: rs => by
    show (PyData.hasDict (.tuple [.int r.1, .int r.2]) || PyData.hasDictAll (dPairs rs)) = false
    rw [pairs_dict rs]
    simp only [PyData.hasDict, PyData.hasDictAll, Bool.or_self]
theorem pairs_leaves : ∀ rs : List (Int × Int), (∀ r ∈ rs, r.1.natAbs < 2 ^ 39 ∧ r.2.natAbs < 2 ^ 39) → PyData.leavesShortAll 13 (dPairs rs) = true
  | [], _ => rfl
  | r :: rs, h => by
    have h1 := h r List.mem_cons_self
    show (PyData.leavesShort 13 (.tuple [.int r.1, .int r.2]) && PyData.leavesShortAll 13 (dPairs rs)) = true
    rw [pairs_leaves rs fun x hx => h x (List.mem_cons_of_mem _ hx)]
    have e : PyData.leavesShort 13 (.tuple [.int r.1, .int r.2]) = PyData.leavesShortAll 13 [.int r.1, .int r.2] := by simp only [PyData.leavesShort]
    have e' : PyData.leavesShortAll 13 [.int r.1, .int r.2] = (PyData.leavesShort 13 (.int r.1) && (PyData.leavesShort 13 (.int r.2) && true)) := by simp only [PyData.leavesShortAll]
    rw [e, e', leaf_int h1.1, leaf_int h1.2]
    rfl
theorem pairs_weight : ∀ rs : List (Int × Int), (∀ r ∈ rs, r.1.natAbs < 2 ^ 39 ∧ r.2.natAbs < 2 ^ 39) → PyData.weightAll (dPairs rs) ≤ 130 * rs.length
  | [], _ => Nat.le_refl _
  | r :: rs, h => by
    have h1 := h r List.mem_cons_self
    have h2 := pairs_weight rs fun x hx => h x (List.mem_cons_of_mem _ hx)
    have w1 := weight_int h1.1
    have w2 := weight_int h1.2
    have e : PyData.weightAll (dPairs (r :: rs)) = PyData.weight (.tuple [.int r.1, .int r.2]) + 1 + PyData.weightAll (dPairs rs) := by
      show PyData.weightAll (_ :: _) = _
      simp only [PyData.weightAll]
      rfl
    have e2 : PyData.weight (.tuple [.int r.1, .int r.2]) = PyData.weight (.int r.1) + 1 + (PyData.weight (.int r.2) + 1 + 0) := by simp only [PyData.weight, PyData.weightAll]
    rw [e, e2, List.length_cons]
    omega
theorem nice_prs {rs : List (Int × Int)} (h : ∀ r ∈ rs, r.1.natAbs < 2 ^ 39 ∧ r.2.natAbs < 2 ^ 39) (hl : rs.length ≤ 2000) : Nice (.list (dPairs rs)) :=
  ⟨by simp only [PyData.showable]; exact pairs_show rs h, by simp only [PyData.hasDict]; exact pairs_dict rs, by have := depth_pairs rs; simp only [PyData.depth]; omega, by
    refine PyData.shown_fits (B := 13) (by decide) (by decide) ?_ ?_
    · simp only [PyData.leavesShort]
      exact pairs_leaves rs h
    · have := pairs_weight rs h
      simp only [PyData.weight]
      omega⟩
section
variable {X : Cx}
/-- repr of data at an address, while no repr is under way -/
def rReprD (K : PySem.W.Frag) : List V → Hp → VK → Prop := fun vs H Q => ∃ (a : Addr) (d : PyData), vs = [V.ref a] ∧ Dp K H (.ref a) d ∧ Nice d ∧ Q (.str d.shown) H
theorem cr_reprD (hg : X.A.guards = some []) (hu : X.A.units + 100 < cLine) : CallR X (.builtin "repr") (rReprD X.K) := by
  intro pins s σ H vs us Q I r h
  obtain ⟨a, d, rfl, hd, nc, q⟩ := h
  rw [Vals.ref1 r]
  obtain ⟨as, rd⟩ := Dp.reads I d (.ref a) (.ref a) hd rfl
  refine repr_of_reads' rd nc.show' (PyData.noDict_hsm nc.dict) hg (by have := nc.depth; omega) (fun _ _ e => e) (fun g u tk k => ?_) nc.fits
  exact ⟨.str d.shown, H, I.kept k, ⟨u, rfl⟩, q⟩
theorem cr_reprB : CallR X (.builtin "repr") (fun vs H Q => ∃ b : Bool, vs = [V.bl b] ∧ Q (.str (if b = true then "True" else "False")) H) := by
  intro pins s σ H vs us Q I r h
  obtain ⟨b, rfl, q⟩ := h
  obtain ⟨u, rfl, ru⟩ := vals1 r
  cases ru
  exact PySem.P.repr_of_bool ⟨.str _, H, I.tok _, ⟨_, rfl⟩, q⟩
end
section
variable {K : PySem.W.Frag} {a b : Addr} {xs ys : List V}
theorem walk_tups {n : Nat} (hn : n = min xs.length ys.length) : Walk (RZ.ItzT K a b) n (fun H => SqT K H a xs ∧ SqT K H b ys) (YPair (fun i => xs[i]?) (fun i => ys[i]?)) := by
  refine ⟨fun i H hi q => ⟨xs, ys, xs[i]'(by omega), ys[i]'(by omega), q.1, q.2, List.getElem?_eq_getElem (by omega), List.getElem?_eq_getElem (by omega)⟩, fun H q => ⟨xs, ys, q.1, q.2, by omega⟩, fun i H v H' _ q y => ?_⟩
  obtain ⟨T, x, z, h1, h2, h3, h4, h5⟩ := y
  exact ⟨T, x, z, h1, h2, h3, h4 xs q.1, h5 ys q.2⟩
end
/-- two promises of one def -/
theorem both {P : Program} {w : World} {K : PySem.W.Frag} {mg : Str → Option Value} {base : Heap} {CX : CXT} {k : Nat} {f : Addr} {fd : FuncData} {ps : List Str} {sp sp' : Sp}
    (F : FnOk P w K mg base CX k f fd ps sp) (G : FnOk P w K mg base CX k f fd ps sp') : FnOk P w K mg base CX k f fd ps (fun vs H Q E => sp vs H Q E ∨ sp' vs H Q E) :=
  ⟨fun vs H Q E h => h.elim (F.len vs H Q E) (G.len vs H Q E), fun A outer s H args us vs Q E hr e0 hb r h => h.elim (F.run A outer s H args us vs Q E hr e0 hb r) (G.run A outer s H args us vs Q E hr e0 hb r)⟩
end PH

/-! max(xs, default=d) of a list of ints -/
namespace GM
open PySem PySem.Spec PyProof.Rows L2 PH
def topD (d : Int) : List Int → Int
  | [] => d
  | n :: ns => ns.foldl max n
theorem alike_ints (ns : List Int) : PySem.W.AlikeAll (ns.map PyData.int) := by
  refine ⟨fun x hx y hy => ?_, fun x hx => ?_⟩
  · obtain ⟨a, _, rfl⟩ := List.mem_map.mp hx
    obtain ⟨b, _, rfl⟩ := List.mem_map.mp hy
    rfl
  · obtain ⟨a, _, rfl⟩ := List.mem_map.mp hx
    intro h
    cases h
theorem depth_ints : ∀ ns : List Int, PyData.depthAll (ns.map PyData.int) ≤ 1
  | [] => Nat.zero_le _
  | n :: ns => by
    have := depth_ints ns
    simp only [List.map_cons, PyData.depthAll, PyData.depth]
    omega
section
variable {X : Cx}
def rMaxD (K : PySem.W.Frag) : List V → List V → Hp → VK → Prop := fun vs zs H Q => ∃ (a : Addr) (ns : List Int) (d : Int), vs = [V.ref a] ∧ zs = [V.int d] ∧ SqL K H a (ns.map V.int) ∧ Q (.int (topD d ns)) H
theorem cr_maxD (hc : X.calm = true) (hu : X.A.units + 100 < cLine) : CallRK X (.builtin "max") [Str.ofString "default"] (rMaxD X.K) := by
  intro pins s σ H xs zs us ws Q I rx rz h
  obtain ⟨a, ns, d, rfl, rfl, hs, q⟩ := h
  obtain ⟨its, rv, hl, _⟩ := I.list hs
  rw [Vals.ref1 rx]
  obtain ⟨t, rfl⟩ : ∃ t, ws = [Value.int d t] := by
    cases rz with
    | cons r1 r2 =>
      obtain ⟨t, rfl⟩ := r1
      cases r2
      exact ⟨t, rfl⟩
  have ra := ints_readAll s.heap rv.ints
  show wpAny _ _ (call (.builtin "max") [.ref a] [(Str.ofString "default", .int d t)]) _ _ s
  refine PySem.W.max_list_default (I.ok.hd hc) hl.isList ra (alike_ints ns) (by have := depth_ints ns; omega) (fun e h' tk hk => ?_) (fun y ys i v h' tk bs e hv rd hk => ?_)
  · have : ns = [] := by
      cases ns with
      | nil => rfl
      | cons _ _ => cases e
    subst this
    exact ⟨.int d, H, I.kept hk, ⟨_, rfl⟩, q⟩
  · cases ns with
    | nil => cases e
    | cons n ns =>
      cases e
      rw [PySem.W.maxD_ints] at rd
      cases rd with
      | int i t2 => exact ⟨.int _, H, I.kept hk, ⟨_, rfl⟩, q⟩
end
end GM

/-! points taken out, in any order: one count -/
namespace RM
open PM
/-- of four points in a row, the middle two may be taken out -/
abbrev Taken (a b c d : Int) : Prop := ((rg a b).1 ≤ (rg b c).1 ∧ (rg b c).2 ≤ (rg a b).2) ∧ ((rg c d).1 ≤ (rg b c).1 ∧ (rg b c).2 ≤ (rg c d).2)
/-- up and down by turns -/
def ZZ : List Int → Prop
  | x :: y :: z :: r => ((x < y ∧ z < y) ∨ (y < x ∧ y < z)) ∧ ZZ (y :: z :: r)
  | [x, y] => x ≠ y
  | _ => True
inductive Step : List Int → Int × Int → List Int → Prop
  | here {a b c d : Int} {post : List Int} : Taken a b c d → Step (a :: b :: c :: d :: post) (rg b c) (a :: d :: post)
  | there {x : Int} {p q : List Int} {cy : Int × Int} : Step p cy q → Step (x :: p) cy (x :: q)
theorem ZZ.tail {x : Int} : ∀ {p : List Int}, ZZ (x :: p) → ZZ p
  | [], _ => trivial
  | [_], _ => trivial
  | [y, z], h => by
    have h1 := h.1
    show y ≠ z
    omega
  | y :: z :: u :: r, h => h.2
theorem Step.head {x : Int} {p q : List Int} {cy : Int × Int} (h : Step (x :: p) cy q) : ∃ q', q = x :: q' := by
  cases h with
  | here _ => exact ⟨_, rfl⟩
  | there _ => exact ⟨_, rfl⟩
theorem Step.len {p q : List Int} {cy : Int × Int} (h : Step p cy q) : p.length = q.length + 2 := by
  induction h with
  | here _ => simp only [List.length_cons]
  | there _ ih => simp only [List.length_cons]; omega
theorem rg_up {a b : Int} (h : a < b) : rg a b = (a, b) := by unfold rg; rw [if_neg (by omega), if_pos (by omega)]
theorem rg_down {a b : Int} (h : b < a) : rg a b = (b, a) := by unfold rg; rw [if_pos h, if_neg (by omega)]
/-- among points that go up and down -/
theorem taken_iff {a b c d : Int} (h : ZZ (a :: b :: c :: d :: [])) : Taken a b c d ↔ (a < b ∧ c < b ∧ c < d ∧ a ≤ c ∧ b ≤ d) ∨ (b < a ∧ b < c ∧ d < c ∧ c ≤ a ∧ d ≤ b) := by
  have h1 := h.1
  have h2 := h.2.1
  unfold Taken
  rcases h1 with ⟨x, y⟩ | ⟨x, y⟩
  · have z : c < d := by omega
    rw [rg_up x, rg_down y, rg_up z]
    dsimp only
    omega
  · have z : d < c := by omega
    rw [rg_down x, rg_up y, rg_down z]
    dsimp only
    omega
theorem ZZ.four {a b c d : Int} {r : List Int} (h : ZZ (a :: b :: c :: d :: r)) : ZZ (a :: b :: c :: d :: []) := by
  refine ⟨h.1, h.2.1, ?_⟩
  have := h.2.1
  show c ≠ d
  omega
theorem zz_here {a b c d : Int} : ∀ {post : List Int}, ZZ (a :: b :: c :: d :: post) → Taken a b c d → ZZ (a :: d :: post)
  | [], h, t => by
    rcases (taken_iff h.four).mp t with z | z
    · show a ≠ d
      omega
    · show a ≠ d
      omega
  | e :: r, h, t => by
    have h3 := h.2.2.1
    refine ⟨?_, h.2.2.2⟩
    rcases (taken_iff h.four).mp t with z | z <;> omega
theorem zz_cons {x y : Int} {p : List Int} (h : ZZ (x :: y :: p)) : x ≠ y := by
  cases p with
  | nil => exact h
  | cons z r => have := h.1; omega
theorem ZZ.step {p q : List Int} {cy : Int × Int} (h : Step p cy q) : ZZ p → ZZ q := by
  induction h with
  | here t => exact fun z => zz_here z t
  | @there x p q cy h ih =>
    intro z
    have zq := ih z.tail
    cases h with
    | @here a b c d post t =>
      have z1 := z.1
      have ti := (taken_iff z.tail.four).mp t
      refine ⟨?_, zq⟩
      rcases ti with t | t <;> omega
    | @there y p' q' cy' h' =>
      cases q' with
      | nil =>
        have := h'.len
        exact zz_cons z
      | cons u v =>
        cases p' with
        | nil => have := h'.len; simp at this
        | cons u' v' =>
          obtain ⟨v'', e⟩ := h'.head
          have e1 : u = u' := (List.cons.inj e).1
          subst e1
          exact ⟨z.1, zq⟩
/-- two ways to go on meet again -/
theorem diamond {p p1 : List Int} {c1 : Int × Int} (h1 : Step p c1 p1) : ∀ {p2 : List Int} {c2 : Int × Int}, Step p c2 p2 → ZZ p → (c1 = c2 ∧ p1 = p2) ∨ ∃ p3, Step p1 c2 p3 ∧ Step p2 c1 p3 := by
  have key : ∀ {a b c d : Int} {post : List Int} {p2 : List Int} {c2 : Int × Int}, Taken a b c d → Step (b :: c :: d :: post) c2 p2 → ZZ (a :: b :: c :: d :: post) →
      (rg b c = c2 ∧ a :: d :: post = a :: p2) ∨ ∃ p3, Step (a :: d :: post) c2 p3 ∧ Step (a :: p2) (rg b c) p3 := by
    intro a b c d post p2 c2 t h z
    have t1 := (taken_iff z.four).mp t
    cases h with
    | @here _ _ _ e post' t2 =>
      have t3 := (taken_iff z.tail.four).mp t2
      have ebd : b = d := by omega
      subst ebd
      refine .inl ⟨?_, rfl⟩
      have z1 := z.1
      rcases z1 with ⟨x, y⟩ | ⟨x, y⟩
      · rw [rg_down y, rg_up y]
      · rw [rg_up y, rg_down y]
    | @there _ _ q2 _ h2 =>
      cases h2 with
      | @here _ _ e f post' t2 =>
        have t3 := (taken_iff z.tail.tail.four).mp t2
        have za : ZZ (a :: d :: e :: f :: post') := zz_here z t
        have zb : ZZ (a :: b :: c :: f :: post') := ZZ.step (.there (.there (.here t2))) z
        exact .inr ⟨a :: f :: post', .here ((taken_iff za.four).mpr (by omega)), .here ((taken_iff zb.four).mpr (by omega))⟩
      | @there _ _ q3 _ h3 =>
        obtain ⟨q4, rfl⟩ := h3.head
        exact .inr ⟨a :: d :: q4, .there h3, .here t⟩
  induction h1 with
  | @here a b c d post t =>
    intro p2 c2 h2 z
    cases h2 with
    | here _ => exact .inl ⟨rfl, rfl⟩
    | @there _ _ q2 _ h2 => exact key t h2 z
  | @there x p q cy h1 ih =>
    intro p2 c2 h2 z
    cases h2 with
    | @here a b c d post t =>
      rcases key t h1 z with ⟨e1, e2⟩ | ⟨p3, s1, s2⟩
      · exact .inl ⟨e1.symm, e2.symm⟩
      · exact .inr ⟨p3, s2, s1⟩
    | @there _ _ q2 _ h2 =>
      rcases ih h2 z.tail with ⟨e1, e2⟩ | ⟨p3, s1, s2⟩
      · exact .inl ⟨e1, by rw [e2]⟩
      · exact .inr ⟨x :: p3, .there s1, .there s2⟩
inductive Run : List Int → List (Int × Int) → List Int → Prop
  | nil (p : List Int) : Run p [] p
  | cons {p q r : List Int} {c : Int × Int} {cs : List (Int × Int)} : Step p c q → Run q cs r → Run p (c :: cs) r
/-- nothing can be taken out -/
def NF (p : List Int) : Prop := ∀ c q, ¬ Step p c q
theorem Run.snoc {p q r : List Int} {c : Int × Int} {cs : List (Int × Int)} (h : Run p cs q) (s : Step q c r) : Run p (cs ++ [c]) r := by
  induction h with
  | nil p => exact .cons s (.nil _)
  | cons h1 _ ih => exact .cons h1 (ih s)
theorem Run.zz {p q : List Int} {cs : List (Int × Int)} (h : Run p cs q) : ZZ p → ZZ q := by
  induction h with
  | nil p => exact id
  | cons h1 _ ih => exact fun z => ih (ZZ.step h1 z)
theorem Run.len {p q : List Int} {cs : List (Int × Int)} (h : Run p cs q) : p.length = q.length + 2 * cs.length := by
  induction h with
  | nil p => simp
  | cons h1 _ ih => have := h1.len; rw [List.length_cons]; omega
theorem ends : ∀ (n : Nat) (p : List Int), p.length ≤ n → ∃ cs r, Run p cs r ∧ NF r
  | 0, p, h => ⟨[], p, .nil p, fun c q s => by have := s.len; omega⟩
  | n + 1, p, h => by
    by_cases e : ∃ c q, Step p c q
    · obtain ⟨c, q, s⟩ := e
      have := s.len
      obtain ⟨cs, r, h1, h2⟩ := ends n q (by omega)
      exact ⟨c :: cs, r, .cons s h1, h2⟩
    · exact ⟨[], p, .nil p, fun c q s => e ⟨c, q, s⟩⟩
/-- in whatever order points are taken out, the same cycles and the same rest come out -/
theorem unique : ∀ (n : Nat) (p : List Int), p.length ≤ n → ZZ p → ∀ {cs ds : List (Int × Int)} {r s : List Int}, Run p cs r → NF r → Run p ds s → NF s → r = s ∧ cs.Perm ds := by
  intro n
  induction n with
  | zero =>
    intro p hp z cs ds r s h1 n1 h2 n2
    cases h1 with
    | nil _ => cases h2 with
      | nil _ => exact ⟨rfl, .nil⟩
      | cons s2 _ => exact absurd s2 (n1 _ _)
    | cons s1 _ => have := s1.len; omega
  | succ n ih =>
    intro p hp z cs ds r s h1 n1 h2 n2
    cases h1 with
    | nil _ => cases h2 with
      | nil _ => exact ⟨rfl, .nil⟩
      | cons s2 _ => exact absurd s2 (n1 _ _)
    | @cons _ q1 _ c1 cs' s1 r1 =>
      cases h2 with
      | nil _ => exact absurd s1 (n2 _ _)
      | @cons _ q2 _ c2 ds' s2 r2 =>
        have l1 := s1.len
        have l2 := s2.len
        rcases diamond s1 s2 z with ⟨e1, e2⟩ | ⟨p3, t1, t2⟩
        · subst e1 e2
          obtain ⟨e, pm⟩ := ih q1 (by omega) (ZZ.step s1 z) r1 n1 r2 n2
          exact ⟨e, pm.cons _⟩
        · obtain ⟨es, t, r3, n3⟩ := ends p3.length p3 (Nat.le_refl _)
          obtain ⟨e1, m1⟩ := ih q1 (by omega) (ZZ.step s1 z) r1 n1 (.cons t1 r3) n3
          obtain ⟨e2, m2⟩ := ih q2 (by omega) (ZZ.step s2 z) r2 n2 (.cons t2 r3) n3
          refine ⟨e1.trans e2.symm, ?_⟩
          exact ((m1.cons c1).trans (.swap c2 c1 es)).trans (m2.symm.cons c2)
theorem one_count {p : List Int} (z : ZZ p) {cs ds : List (Int × Int)} {r s : List Int} (h1 : Run p cs r) (n1 : NF r) (h2 : Run p ds s) (n2 : NF s) : r = s ∧ cs.Perm ds := unique p.length p (Nat.le_refl _) z h1 n1 h2 n2
/-! ### the stack's way -/
theorem Step.suffix {p q : List Int} {cy : Int × Int} (h : Step p cy q) (l : List Int) : Step (p ++ l) cy (q ++ l) := by
  induction h with
  | here t => exact .here t
  | there _ ih => exact .there ih
theorem Step.prefix {p q : List Int} {cy : Int × Int} (h : Step p cy q) : ∀ l : List Int, Step (l ++ p) cy (l ++ q)
  | [] => h
  | x :: l => .there (h.prefix l)
theorem step_last {p : List Int} {cy : Int × Int} {q : List Int} (h : Step p cy q) : ∀ {m : List Int} {x : Int}, p = m ++ [x] → (∃ q', Step m cy q' ∧ q = q' ++ [x]) ∨ ∃ pre a b c, p = pre ++ [a, b, c, x] ∧ Taken a b c x := by
  induction h with
  | @here a b c d post t =>
    intro m x e
    rcases List.eq_nil_or_concat post with rfl | ⟨post', y, rfl⟩
    · have e2 : [a, b, c] ++ [d] = m ++ [x] := e
      obtain ⟨_, e4⟩ := List.append_inj' e2 rfl
      have e5 : d = x := (List.cons.inj e4).1
      subst e5
      exact .inr ⟨[], a, b, c, rfl, t⟩
    · have e2 : (a :: b :: c :: d :: post') ++ [y] = m ++ [x] := by rw [← e]; simp
      obtain ⟨e3, e4⟩ := List.append_inj' e2 rfl
      have e5 : y = x := (List.cons.inj e4).1
      subst e5 e3
      exact .inl ⟨a :: d :: post', .here t, by simp⟩
  | @there y p q cy h ih =>
    intro m x e
    cases m with
    | nil =>
      have e2 : p = [] := (List.cons.inj e).2
      subst e2
      cases h
    | cons y' m' =>
      obtain ⟨e1, e2⟩ := List.cons.inj e
      subst e1
      rcases ih e2 with ⟨q', s, e3⟩ | ⟨pre, a, b, c, e3, t⟩
      · exact .inl ⟨y :: q', .there s, by rw [e3]; rfl⟩
      · exact .inr ⟨y :: pre, a, b, c, by rw [e3]; rfl, t⟩
theorem nf_push {m : List Int} {x : Int} (h : NF m) (n : ∀ pre a b c, m ++ [x] = pre ++ [a, b, c, x] → ¬ Taken a b c x) : NF (m ++ [x]) := by
  intro cy q s
  rcases step_last s rfl with ⟨q', s', _⟩ | ⟨pre, a, b, c, e, t⟩
  · exact h _ _ s'
  · exact n pre a b c e t
theorem nf_prefix {m l : List Int} (h : NF (m ++ l)) : NF m := fun cy q s => h _ _ (s.suffix l)
/-- turning points go up and down -/
theorem tq_zz : ∀ (l : List Int) (b a : Int), a ≠ b → ∃ x s, tq b a l = x :: s ∧ (x > b ↔ a > b) ∧ x ≠ b ∧ ZZ (b :: x :: s)
  | [], b, a, h => ⟨a, [], rfl, Iff.rfl, h, fun z => h z.symm⟩
  | r :: l, b, a, h => by
    simp only [tq]
    by_cases e : a = r
    · rw [if_pos e]
      exact tq_zz l b a h
    · rw [if_neg e]
      by_cases bt : Btw a b r
      · rw [if_pos bt]
        obtain ⟨x, s, h1, h2, h3, h4⟩ := tq_zz l b r (by omega)
        exact ⟨x, s, h1, by omega, h3, h4⟩
      · rw [if_neg bt]
        obtain ⟨y, s, h1, h2, h3, h4⟩ := tq_zz l a r (fun z => e z.symm)
        refine ⟨a, y :: s, by rw [h1], Iff.rfl, h, ?_, h4⟩
        have h5 : y > a ↔ r > a := h2
        omega
theorem ts_zz : ∀ (l : List Int) (a : Int), ZZ (ts a l)
  | [], _ => trivial
  | r :: l, a => by
    simp only [ts]
    by_cases e : a = r
    · rw [if_pos e]
      exact ts_zz l a
    · rw [if_neg e]
      obtain ⟨x, s, h1, _, _, h4⟩ := tq_zz l a r (fun z => e z.symm)
      rw [h1]
      exact h4
theorem tp_zz (ns : List Int) : ZZ (tp ns) := by
  cases ns with
  | nil => exact trivial
  | cons a l => exact ts_zz l a
end RM

/-! del xs[-3:-1] of a list of at least three -/
namespace DS
open PySem PySem.Spec PyProof.Rows L2
def sel (start stop step : Int) (i : Nat) : Bool :=
  if step > 0 then start ≤ i && i < stop && (i - start) % step == 0 else stop < i && i ≤ start && (start - i) % (-step) == 0
theorem sel_iff (a c : Int) (i : Nat) : sel a c 1 i = decide (a ≤ i ∧ (i : Int) < c) := by
  unfold sel
  rw [if_pos (by decide)]
  have e : ((((i : Int) - a) % 1) == 0) = true := by rw [Int.emod_one]; rfl
  rw [e, Bool.and_true]
  by_cases h1 : a ≤ (i : Int) <;> by_cases h2 : (i : Int) < c <;> simp [h1, h2]
def cutOut (a c : Int) (xs : Array Value) : Array Value := (xs.toList.zipIdx.filterMap fun (x, k) => if sel a c 1 k then none else some x).toArray
theorem keep_all {a c : Int} : ∀ (l : List Value) (s : Nat), ((s + l.length : Nat) : Int) ≤ a → (l.zipIdx s).filterMap (fun (x, k) => if sel a c 1 k then none else some x) = l
  | [], _, _ => rfl
  | x :: l, s, h => by
    rw [List.zipIdx_cons, List.filterMap_cons]
    have e : sel a c 1 s = false := by rw [sel_iff]; exact decide_eq_false (by simp only [List.length_cons] at h; omega)
    have ih := keep_all (a := a) (c := c) l (s + 1) (by simp only [List.length_cons] at h; omega)
    simp only [e, Bool.false_eq_true, if_false]
    rw [ih]
theorem cut_three (pre : List Value) (x y z : Value) : cutOut ((pre.length : Nat) : Int) (((pre.length + 2 : Nat)) : Int) (pre ++ [x, y, z]).toArray = (pre ++ [z]).toArray := by
  unfold cutOut
  congr 1
  show ((pre ++ [x, y, z]).zipIdx.filterMap _) = _
  rw [List.zipIdx_append, List.filterMap_append, keep_all pre 0 (by omega)]
  congr 1
  have e1 : sel ((pre.length : Nat) : Int) (((pre.length + 2 : Nat)) : Int) 1 pre.length = true := by rw [sel_iff]; exact decide_eq_true (by omega)
  have e2 : sel ((pre.length : Nat) : Int) (((pre.length + 2 : Nat)) : Int) 1 (pre.length + 1) = true := by rw [sel_iff]; exact decide_eq_true (by omega)
  have e3 : sel ((pre.length : Nat) : Int) (((pre.length + 2 : Nat)) : Int) 1 (pre.length + 1 + 1) = false := by rw [sel_iff]; exact decide_eq_false (by omega)
  simp only [Nat.zero_add, List.zipIdx_cons, List.zipIdx_nil, List.filterMap_cons, List.filterMap_nil, e1, e2, e3, if_true, Bool.false_eq_true, if_false]
theorem bounds31 (n : Nat) : sliceBounds (some (-3)) (some (-1)) none (n + 3) = (((n : Nat) : Int), ((n + 2 : Nat) : Int), 1) := by
  simp only [sliceBounds, Option.getD_none]
  have h1 : (-3 : Int) < 0 := by decide
  have h2 : (-1 : Int) < 0 := by decide
  simp only [h1, h2, if_true, show (1 : Int) > 0 by decide]
  congr 1
  · omega
  · congr 1; omega
section
variable {prog : Program} {w : World} {A : Around} {E : Value → Shared → Prop} {s : Shared}
theorem del31 {l sl : Addr} {its : Array Value} {n : Nat} {vl vu : Value} {Q : Unit → Shared → Prop} (e : s.heap.get? l = some { cls := .type "list", data := .seq its n }) (hs : s.heap.IsSliceOf sl vl vu .none)
    (pl : IsPart vl (some (-3))) (pu : IsPart vu (some (-1))) (m : Nat) (hm : its.size = m + 3) (hz : its.size ≤ sizeLine)
    (h : Q () { s with heap := s.heap.update l (Obj.mapSeq (cutOut (m : Int) ((m + 2 : Nat) : Int))) }) : wpAny (model prog w) A (delItem (.ref l) (.ref sl)) Q E s := by
  have hl : s.heap.IsList l its := PySem.IsL.isList e
  obtain ⟨os, hos, hcs, hds⟩ := id hs
  have hT : s.TypeIs (.ref sl) "slice" := ⟨os, hos, hcs⟩
  have hst : ¬ ((rawPart none == rawInt 0) = true) := Bool.false_ne_true
  refine wpAny_delItem_slot hl.typeIs (by decide) F.slot_list_delitem (wpAny_call_entry F.slot_list_delitem hl.typeIs F.entry_list_delitem ?_ (F.args_list_delitem_2 _ _))
  unfold Builtin.«list.__delitem__»
  refine wpAny_bind (wpAny_of_eq (a := (Value.ref l, [Value.ref sl])) (by first | rfl | kernel_rfl) ?_)
  show wpAny _ _ (Builtin.List.listSubscript? (.ref sl) >>= _) _ _ s
  unfold Builtin.List.listSubscript?
  refine wpAny_bind (wpAny_bind (wpAny_specialOf hT slice_no_index ?_))
  simp only [Option.isNone_none, if_true]
  refine wpAny_pure ?_
  show wpAny _ _ (typeOf (.ref sl) >>= _) _ _ s
  refine wpAny_bind (wpAny_typeOf hT ?_)
  first
    | rw [if_neg (by decide)]
    | refine PySem.W.KFB.if_not (by decide) ?_
  rw [listSliceParts_eq]
  refine wpAny_bind (wpAny_bind (wpAny_field hos hds rfl (wpAny_bind (wpAny_listPart .none ?_))))
  rw [if_neg hst]
  refine wpAny_bind (wpAny_field hos hds rfl (wpAny_bind (wpAny_listPart pl ?_)))
  refine wpAny_bind (wpAny_field hos hds rfl (wpAny_bind (wpAny_listPart pu (wpAny_pure ?_))))
  unfold Builtin.List.listItems
  refine wpAny_bind (wpAny_bind (wpAny_seqItems e rfl (wpAny_pure ?_)))
  rw [hm]
  refine wpAny_bind (wpAny_of_eq ((sliceIndices_raw (some (-3)) (some (-1)) none (m + 3) (by simp)).trans (congrArg (pure : Int × Int × Int → Sem (Int × Int × Int)) (bounds31 m))) ?_)
  refine wpAny_bind (wpAny_rule ?_)
  have hz2 : (cutOut (m : Int) ((m + 2 : Nat) : Int) its).size ≤ sizeLine + 1 := by
    unfold cutOut
    rw [List.size_toArray]
    refine Nat.le_trans (List.length_filterMap_le _ _) ?_
    rw [List.length_zipIdx, Array.length_toList]
    omega
  show wpAny _ _ (updateSeq l (cutOut (m : Int) ((m + 2 : Nat) : Int)) >>= _) _ _ s
  refine wpAny_bind (wpAny_updateSeq (hz := hz) (_hz' := hz2) e rfl ?_)
  refine wpAny_bind (wpAny_letGo ?_)
  first
    | exact wpAny_pure ⟨.none, rfl, h⟩
    | exact wpAny_pure h
end
theorem split3 : ∀ {pre : List V} {x1 y1 z1 : V} {its : List Value}, Vals (pre ++ [x1, y1, z1]) its → ∃ ip i1 i2 i3, its = ip ++ [i1, i2, i3] ∧ Vals pre ip ∧ RelV x1 i1 ∧ RelV y1 i2 ∧ RelV z1 i3
  | [], _, _, _, _, .cons r1 (.cons r2 (.cons r3 .nil)) => ⟨[], _, _, _, rfl, .nil, r1, r2, r3⟩
  | _ :: pre, _, _, _, _, .cons r0 t => by
    obtain ⟨ip, i1, i2, i3, e, rp, h⟩ := split3 (pre := pre) t
    exact ⟨_ :: ip, i1, i2, i3, by rw [e]; rfl, .cons r0 rp, h⟩
section
variable {X : Cx}
/-- del xs[-3:-1] of a list of at least three -/
def tDel31 (to : TE) (tl th : TO) : TS := fun D σ H => to σ H fun x H1 => tl σ H1 fun l H2 => th σ H2 fun u H3 => l = some (-3) ∧ u = some (-1) ∧ ∃ (a : Addr) (pre : List V) (x1 y1 z1 : V), x = .ref a ∧ H3 a = some (.lst (pre ++ [x1, y1, z1])) ∧
  D.nx σ (upd H3 a (.lst (pre ++ [z1])))
theorem ps_del31 {o : Expr} {lo hi : Option Expr} {to : TE} {tl th : TO} {tpos p2 pos : Pos} (ho : PE X o to) (hl : PO X lo tl) (hu : PO X hi th) : PS X (.Delete [.Subscript o (.Slice lo hi none p2) tpos] pos) (tDel31 to tl th) := by
  refine ⟨fun pins s σ H D I h => ?_⟩
  refine wpAny_Delete (wpAny_deleteEach_cons (wpAny_delete_Subscript (thn (ho.run pins s σ H _ I h) fun u s1 ⟨x, H1, I1, rx, q1⟩ => ?_)))
  refine wpAny_Slice (thn (hl.run pins s1 σ H1 _ I1 q1) fun vl s2 ⟨l, H2, I2, pl, q2⟩ => thn (hu.run pins s2 σ H2 _ I2 q2) fun vu s3 ⟨w, H3, I3, pu, q3⟩ => ?_)
  rw [evalPart_none]
  refine wpAny_pure ?_
  obtain ⟨e1, e2, a, pre, x1, y1, z1, rfl, hH, q⟩ := q3
  subst e1 e2
  cases (show u = Value.ref a from rx)
  have I4 : Inv X pins σ H3 { s3 with heap := s3.heap.push { cls := .type "slice", data := .fields #[vl, vu, .none] } } := I3.kept (t' := s3.toks) fun b o e => Heap.get?_push_of_some _ e
  obtain ⟨z, its, n, r, hlen, e⟩ := I4.lstM hH
  have hn : its.length = pre.length + 3 := by rw [← hlen]; simp
  obtain ⟨ip, i1, i2, i3, ei, rp, r1, r2, r3⟩ : ∃ ip i1 i2 i3, its = ip ++ [i1, i2, i3] ∧ Vals pre ip ∧ RelV x1 i1 ∧ RelV y1 i2 ∧ RelV z1 i3 := split3 r
  subst ei
  have hp : ip.length = pre.length := rp.length.symm
  refine del31 e (Heap.IsSliceOf.new ..) pl pu pre.length (by rw [List.size_toArray]; exact hn) (by rw [List.size_toArray, ← hlen]; exact z) (wpAny_deleteEach_nil ⟨σ, _, I4.lset (ys := pre ++ [z1]) (its' := ip ++ [i3]) (t' := s3.toks) hH e ?_ (rp.append (.cons r3 .nil)) ?_, q⟩)
  · rw [← hp]
    exact cut_three ip i1 i2 i3
  · have := z
    simp only [List.length_append, List.length_cons, List.length_nil] at this ⊢
    omega
end
end DS

/-! places, sorted pairs, the stack's turns -/
namespace RN
open PM RM
def takenAt (ps : List Int) (i : Nat) : Bool := match ps.drop i with
  | a :: b :: c :: d :: _ => decide (Taken a b c d)
  | _ => false
theorem taken_here {ps : List Int} {i : Nat} (h : takenAt ps i = true) : ∃ pre a b c d post, ps = pre ++ a :: b :: c :: d :: post ∧ pre.length = i ∧ Taken a b c d := by
  unfold takenAt at h
  split at h
  · rename_i a b c d post e
    refine ⟨ps.take i, a, b, c, d, post, by rw [← e, List.take_append_drop], ?_, of_decide_eq_true h⟩
    have : (ps.drop i).length = post.length + 4 := by rw [e]; simp
    rw [List.length_drop] at this
    rw [List.length_take]
    omega
  · cases h
theorem taken_get {ps : List Int} {i : Nat} {a b c d : Int} (h0 : ps[i]? = some a) (h1 : ps[i + 1]? = some b) (h2 : ps[i + 2]? = some c) (h3 : ps[i + 3]? = some d) : takenAt ps i = decide (Taken a b c d) := by
  have e : ∀ {j : Nat} {r : Int}, ps[j]? = some r → ps.drop j = r :: ps.drop (j + 1) := fun {j r} h => by
    obtain ⟨k1, k2⟩ := List.getElem?_eq_some_iff.mp h
    rw [List.drop_eq_getElem_cons k1, k2]
  unfold takenAt
  rw [e h0, e h1, e h2, e h3]
theorem taken_lt {ps : List Int} {i : Nat} (h : takenAt ps i = true) : i < ps.length - 3 := by
  obtain ⟨pre, a, b, c, d, post, e, hl, _⟩ := taken_here h
  rw [e]
  simp only [List.length_append, List.length_cons]
  omega
theorem step_at {ps q : List Int} {cy : Int × Int} (h : Step ps cy q) : ∃ i, takenAt ps i = true := by
  induction h with
  | here t => exact ⟨0, decide_eq_true t⟩
  | there _ ih =>
    obtain ⟨i, e⟩ := ih
    exact ⟨i + 1, e⟩
def plc (ps : List Int) : List Int := ((List.range (ps.length - 3)).filter (takenAt ps)).map fun (i : Nat) => (i : Int) + 1
theorem plc_mem {ps : List Int} {x : Int} (h : x ∈ plc ps) : ∃ i : Nat, x = (i : Int) + 1 ∧ takenAt ps i = true := by
  obtain ⟨i, hi, e⟩ := List.mem_map.mp h
  exact ⟨i, e.symm, (List.mem_filter.mp hi).2⟩
theorem nf_of_plc {ps : List Int} (h : plc ps = []) : NF ps := by
  intro c q s
  obtain ⟨i, e⟩ := step_at s
  have : (i : Int) + 1 ∈ plc ps := List.mem_map.mpr ⟨i, List.mem_filter.mpr ⟨List.mem_range.mpr (taken_lt e), e⟩, rfl⟩
  rw [h] at this
  cases this
theorem plc_of_nf {ps : List Int} (h : NF ps) : plc ps = [] := by
  cases e : plc ps with
  | nil => rfl
  | cons x l =>
    have hx : x ∈ plc ps := by rw [e]; exact List.mem_cons_self
    obtain ⟨i, _, t⟩ := plc_mem hx
    obtain ⟨pre, a, b, c, d, post, e2, _, tk⟩ := taken_here t
    rw [e2] at h
    exact absurd ((Step.here tk).prefix pre) (h _ _)
theorem Run.suffix {p q : List Int} {cs : List (Int × Int)} (h : Run p cs q) (l : List Int) : Run (p ++ l) cs (q ++ l) := by
  induction h with
  | nil p => exact .nil _
  | cons s _ ih => exact .cons (s.suffix l) ih
theorem Run.ends {p r : List Int} {cs : List (Int × Int)} (h : Run p cs r) : (cs = [] ∧ p = r) ∨ 2 ≤ r.length := by
  induction h with
  | nil p => exact .inl ⟨rfl, rfl⟩
  | @cons p q r c cs s h ih =>
    refine .inr ?_
    rcases ih with ⟨_, e⟩ | e
    · subst e
      have : ∀ {p q : List Int} {c : Int × Int}, Step p c q → 2 ≤ q.length := by
        intro p q c s
        induction s with
        | here _ => simp only [List.length_cons]; omega
        | there _ ih => simp only [List.length_cons]; omega
      exact this s
    · exact e
theorem tq_zig : ∀ (l : List Int) (b a : Int), ZZ (b :: a :: l) → tq b a l = a :: l
  | [], _, _, _ => rfl
  | r :: l, b, a, z => by
    have h1 := z.1
    simp only [tq]
    rw [if_neg (by omega), if_neg (by omega), tq_zig l a r z.2]
theorem zz_tp {ps : List Int} (z : ZZ ps) : tp ps = ps := by
  match ps, z with
  | [], _ => rfl
  | [x], _ => rfl
  | x :: y :: l, z =>
    show ts x (y :: l) = _
    simp only [ts]
    rw [if_neg (zz_cons z), tq_zig l x y z]
/-- pairs in their order -/
abbrev Le (r s : Int × Int) : Prop := r.1 < s.1 ∨ (r.1 = s.1 ∧ r.2 ≤ s.2)
theorem le_anti {r s : Int × Int} (h1 : Le r s) (h2 : Le s r) : r = s := by
  obtain ⟨a, b⟩ := r
  obtain ⟨c, d⟩ := s
  have e1 : a = c := by simp only [Le] at h1 h2; omega
  have e2 : b = d := by simp only [Le] at h1 h2; omega
  rw [e1, e2]
theorem sorted_same : ∀ {l m : List (Int × Int)}, l.Perm m → l.Pairwise Le → m.Pairwise Le → l = m
  | [], m, h, _, _ => (List.Perm.nil_eq h)
  | x :: l, m, h, h1, h2 => by
    cases m with
    | nil => exact absurd h.length_eq (by simp)
    | cons y m =>
      have hx := List.pairwise_cons.mp h1
      have hy := List.pairwise_cons.mp h2
      have e : x = y := by
        have m1 : x ∈ y :: m := h.mem_iff.mp List.mem_cons_self
        have m2 : y ∈ x :: l := h.mem_iff.mpr List.mem_cons_self
        rcases List.mem_cons.mp m1 with e | e
        · exact e
        · rcases List.mem_cons.mp m2 with e' | e'
          · exact e'.symm
          · exact le_anti (hx.1 y e') (hy.1 x e)
      subst e
      rw [sorted_same ((List.perm_cons x).mp h) hx.2 hy.2]
end RN

/-! readings put behind a rest one by one -/
namespace RS
open PM RM RN
/-- the last of some points is none any more with a reading behind it -/
def lo : List Int → Int → Bool
  | [], _ => false
  | [u], r => decide (u = r)
  | [b, u], r => decide (u = r) || decide (Btw u b r)
  | _ :: u :: v :: t, r => lo (u :: v :: t) r
def push : List Int → Int → List Int
  | [], r => [r]
  | [u], r => if u = r then [r] else [u, r]
  | [b, u], r => if u = r ∨ Btw u b r then [b, r] else [b, u, r]
  | b :: u :: v :: t, r => b :: push (u :: v :: t) r
theorem lo_two : ∀ (dn : List Int) (b u r : Int), lo (dn ++ [b, u]) r = (decide (u = r) || decide (Btw u b r))
  | [], _, _, _ => rfl
  | [x], _, _, _ => rfl
  | x :: y :: dn, b, u, r => by
    have h := lo_two (y :: dn) b u r
    cases dn with
    | nil => exact h
    | cons z dn => exact h
theorem push_lo : ∀ (p : List Int) (r : Int), push p r = (if lo p r = true then p.dropLast else p) ++ [r]
  | [], _ => rfl
  | [u], r => by
    simp only [push, lo, decide_eq_true_eq]
    split <;> simp
  | [b, u], r => by
    simp only [push, lo, Bool.or_eq_true, decide_eq_true_eq]
    split <;> simp
  | b :: u :: v :: t, r => by
    have h := push_lo (u :: v :: t) r
    simp only [push, lo]
    rw [h]
    by_cases e : lo (u :: v :: t) r = true
    · simp [e]
    · simp [e]
theorem push_two (dn : List Int) (b u r : Int) : push (dn ++ [b, u]) r = if u = r ∨ Btw u b r then dn ++ [b, r] else dn ++ [b, u, r] := by
  rw [push_lo, lo_two]
  simp only [Bool.or_eq_true, decide_eq_true_eq]
  split
  · rw [show dn ++ [b, u] = (dn ++ [b]) ++ [u] by simp, List.dropLast_concat]; simp
  · simp
theorem push_cons (b : Int) : ∀ {p : List Int} (r : Int), 2 ≤ p.length → push (b :: p) r = b :: push p r
  | [], _, h => by simp at h
  | [_], _, h => by simp at h
  | _ :: _ :: _, _, _ => rfl
theorem tq_ne (b a : Int) : ∀ l, 1 ≤ (tq b a l).length
  | [] => Nat.le_refl _
  | r :: l => by
    simp only [tq]
    split
    · exact tq_ne b a l
    · split
      · exact tq_ne b r l
      · simp
theorem tq_push : ∀ (l : List Int) (b a r : Int), b :: tq b a (l ++ [r]) = push (b :: tq b a l) r
  | [], b, a, r => by
    show b :: tq b a [r] = push [b, a] r
    simp only [tq, push]
    by_cases e : a = r
    · rw [if_pos e, if_pos (Or.inl e), e]
    · rw [if_neg e]
      by_cases bt : Btw a b r
      · rw [if_pos bt, if_pos (Or.inr bt)]
      · rw [if_neg bt, if_neg (fun z => z.elim e bt)]
  | x :: l, b, a, r => by
    simp only [List.cons_append, tq]
    by_cases e : a = x
    · rw [if_pos e, if_pos e]
      exact tq_push l b a r
    · rw [if_neg e, if_neg e]
      by_cases bt : Btw a b x
      · rw [if_pos bt, if_pos bt]
        exact tq_push l b x r
      · rw [if_neg bt, if_neg bt, tq_push l a x r, push_cons b r (by have := tq_ne a x l; simp; omega)]
theorem ts_push : ∀ (l : List Int) (a r : Int), ts a (l ++ [r]) = push (ts a l) r
  | [], a, r => by
    show ts a [r] = push [a] r
    simp only [ts, push]
    by_cases e : a = r
    · rw [if_pos e, if_pos e, e]
    · rw [if_neg e, if_neg e]
      rfl
  | x :: l, a, r => by
    simp only [List.cons_append, ts]
    by_cases e : a = x
    · rw [if_pos e, if_pos e]
      exact ts_push l a r
    · rw [if_neg e, if_neg e]
      exact tq_push l a x r
theorem tp_push (l : List Int) (r : Int) : tp (l ++ [r]) = push (tp l) r := by
  cases l with
  | nil => rfl
  | cons a l => exact ts_push l a r
theorem tp_take {ns : List Int} {i : Nat} {r : Int} (h : ns[i]? = some r) : tp (ns.take (i + 1)) = push (tp (ns.take i)) r := by
  rw [List.take_add_one, h]
  exact tp_push _ _
/-- with points that go up and down, so they go on -/
theorem zz_push {p : List Int} (r : Int) (h : ZZ p) : ZZ (push p r) := by
  have e := tp_push p r
  rw [zz_tp h] at e
  rw [← e]
  exact tp_zz _
theorem taken_abs {a b c d : Int} (h : ZZ (a :: b :: c :: d :: [])) : Taken a b c d ↔ (((b - a).natAbs : Int) ≥ ((c - b).natAbs : Int) ∧ ((d - c).natAbs : Int) ≥ ((c - b).natAbs : Int)) := by
  rw [taken_iff h]
  have h1 := h.1
  have h2 := h.2.1
  omega
theorem zz_at {ps : List Int} : ZZ ps → ∀ {i : Nat} {a b c d : Int}, ps[i]? = some a → ps[i + 1]? = some b → ps[i + 2]? = some c → ps[i + 3]? = some d → ZZ [a, b, c, d] := by
  intro h
  induction ps with
  | nil => intro i a b c d h0; cases h0
  | cons x p ih =>
    intro i a b c d h0 h1 h2 h3
    cases i with
    | succ i => exact ih h.tail h0 h1 h2 h3
    | zero =>
      match p, h, h1, h2, h3 with
      | y :: z :: u :: t, h, h1, h2, h3 =>
        obtain rfl := Option.some.inj h0
        obtain rfl := Option.some.inj h1
        obtain rfl := Option.some.inj h2
        obtain rfl := Option.some.inj h3
        exact h.four
theorem zz_mid {pre : List Int} {a b c d : Int} {post : List Int} (h : ZZ (pre ++ a :: b :: c :: d :: post)) : ZZ [a, b, c, d] := by
  induction pre with
  | nil => exact h.four
  | cons x p ih => exact ih h.tail
theorem zz_mid3 {pre : List Int} {a b c : Int} {post : List Int} (h : ZZ (pre ++ a :: b :: c :: post)) : ((a < b ∧ c < b) ∨ (b < a ∧ b < c)) := by
  induction pre with
  | nil => exact h.1
  | cons x p ih => exact ih h.tail
theorem step_on {p q : List Int} {cy : Int × Int} (s : Step p cy q) : ∀ {m : List Int} {b u : Int}, p = m ++ [b, u] → ZZ p →
    ∃ m' b', q = m' ++ [b', u] ∧ (b < u ↔ b' < u) ∧ (u < b ↔ u < b') ∧ ∀ r, (b < u → u ≤ r) → (u < b → r ≤ u) → Step (m ++ [b, r]) cy (m' ++ [b', r]) := by
  induction s with
  | @here a b1 c d post t =>
    intro m b u e z
    have ti := (taken_iff z.four).mp t
    rcases List.eq_nil_or_concat post with rfl | ⟨post1, y, rfl⟩
    · have e2 : [a, b1] ++ [c, d] = m ++ [b, u] := e
      obtain ⟨rfl, e4⟩ := List.append_inj' e2 rfl
      injection e4 with e5 e6
      injection e6 with e6 _
      subst e5 e6
      refine ⟨[], a, rfl, by omega, by omega, fun r h1 h2 => ?_⟩
      have zr : ZZ [a, b1, c, r] := ⟨z.1, by have := z.2.1; constructor; have := z.1; omega; show c ≠ r; omega⟩
      exact .here ((taken_iff zr).mpr (by omega))
    · rcases List.eq_nil_or_concat post1 with rfl | ⟨post2, x, rfl⟩
      · have e2 : [a, b1, c] ++ [d, y] = m ++ [b, u] := e
        obtain ⟨rfl, e4⟩ := List.append_inj' e2 rfl
        injection e4 with e5 e6
        injection e6 with e6 _
        subst e5 e6
        exact ⟨[a], d, rfl, Iff.rfl, Iff.rfl, fun r _ _ => .here t⟩
      · have e2 : (a :: b1 :: c :: d :: post2) ++ [x, y] = m ++ [b, u] := by rw [← e]; simp
        obtain ⟨rfl, e4⟩ := List.append_inj' e2 rfl
        injection e4 with e5 e6
        injection e6 with e6 _
        subst e5 e6
        exact ⟨a :: d :: post2, x, by simp, Iff.rfl, Iff.rfl, fun r _ _ => .here t⟩
  | @there x p q cy s ih =>
    intro m b u e z
    cases m with
    | nil =>
      have hl := s.len
      injection e with _ e
      rw [e] at hl
      simp at hl
    | cons y m =>
      injection e with e1 e2
      subst e1
      obtain ⟨m', b', h1, h2, h3, h4⟩ := ih e2 z.tail
      exact ⟨x :: m', b', by rw [h1]; rfl, h2, h3, fun r k1 k2 => .there (h4 r k1 k2)⟩
theorem run_on {p q : List Int} {cs : List (Int × Int)} (h : Run p cs q) : ∀ {m : List Int} {b u : Int}, p = m ++ [b, u] → ZZ p →
    ∃ m' b', q = m' ++ [b', u] ∧ (b < u ↔ b' < u) ∧ (u < b ↔ u < b') ∧ ∀ r, (b < u → u ≤ r) → (u < b → r ≤ u) → Run (m ++ [b, r]) cs (m' ++ [b', r]) := by
  induction h with
  | nil p => exact fun {m b u} e z => ⟨m, b, e, Iff.rfl, Iff.rfl, fun r _ _ => .nil _⟩
  | @cons p q r0 c cs s run ih =>
    intro m b u e z
    obtain ⟨m1, b1, h1, h2, h3, h4⟩ := step_on s e z
    obtain ⟨m2, b2, k1, k2, k3, k4⟩ := ih h1 (ZZ.step s z)
    exact ⟨m2, b2, k1, h2.trans k2, h3.trans k3, fun r j1 j2 => .cons (h4 r j1 j2) (k4 r (fun z => j1 (h2.mpr z)) (fun z => j2 (h3.mpr z)))⟩
theorem step_two {p q : List Int} {c : Int × Int} (s : Step p c q) : 2 ≤ q.length := by
  induction s with
  | here _ => simp only [List.length_cons]; omega
  | there _ ih => simp only [List.length_cons]; omega
theorem two_last {p : List Int} (h : 2 ≤ p.length) : ∃ m b u, p = m ++ [b, u] := by
  rcases List.eq_nil_or_concat p with rfl | ⟨m1, d, rfl⟩
  · simp at h
  · rcases List.eq_nil_or_concat m1 with rfl | ⟨m2, c, rfl⟩
    · simp at h
    · exact ⟨m2, c, d, by simp⟩
/-- a reading behind a load is a reading behind its rest -/
theorem run_push {p q : List Int} {cs : List (Int × Int)} (h : Run p cs q) (z : ZZ p) (r : Int) : Run (push p r) cs (push q r) := by
  by_cases h2 : 2 ≤ p.length
  · obtain ⟨m, b, u, rfl⟩ := two_last h2
    obtain ⟨m', b', rfl, e1, e2, e3⟩ := run_on h rfl z
    rw [push_two, push_two]
    by_cases hb : u = r ∨ Btw u b r
    · have hb' : u = r ∨ Btw u b' r := hb.imp id (fun k => by omega)
      rw [if_pos hb, if_pos hb']
      exact e3 r (fun k => by omega) (fun k => by omega)
    · have hb' : ¬ (u = r ∨ Btw u b' r) := fun k => hb (k.imp id (fun k => by omega))
      rw [if_neg hb, if_neg hb']
      have := RN.Run.suffix h [r]
      simpa using this
  · cases h with
    | nil _ => exact .nil _
    | cons s _ =>
      have := s.len
      have := step_two s
      exact absurd (show 2 ≤ p.length by omega) h2
theorem Run.append {p q r : List Int} {cs ds : List (Int × Int)} (h : Run p cs q) (k : Run q ds r) : Run p (cs ++ ds) r := by
  induction h with
  | nil p => exact k
  | cons s _ ih => exact .cons s (ih k)
/-- one reading more -/
theorem stream {ns : List Int} {i : Nat} {r : Int} {cs cs2 : List (Int × Int)} {rs rs2 : List Int} (hr : ns[i]? = some r) (h : Run (tp (ns.take i)) cs rs) (k : Run (push rs r) cs2 rs2) : Run (tp (ns.take (i + 1))) (cs ++ cs2) rs2 := by
  rw [tp_take hr]
  exact Run.append (run_push h (tp_zz _) r) k
theorem push_len (p : List Int) (r : Int) : (push p r).length ≤ p.length + 1 := by
  rw [push_lo]
  split <;> simp
end RS

/-! changes decide the half-cycles, as mathematics -/
namespace RC
open KM PM RM RN
/-- a range holds another one -/
def hl (lo hi : Int) (r : Int × Int) : Bool := decide (r.1 ≤ lo) && decide (hi ≤ r.2)
def nh (lo hi : Int) (rs : List (Int × Int)) : Nat := rs.countP (hl lo hi)
def b1 (b : Bool) : Nat := if b = true then 1 else 0
theorem nh_cons (lo hi : Int) (r : Int × Int) (rs : List (Int × Int)) : nh lo hi (r :: rs) = b1 (hl lo hi r) + nh lo hi rs := by
  unfold nh b1
  rw [List.countP_cons]
  omega
theorem nh_app (lo hi : Int) (rs ss : List (Int × Int)) : nh lo hi (rs ++ ss) = nh lo hi rs + nh lo hi ss := List.countP_append
theorem nh_perm {lo hi : Int} {rs ss : List (Int × Int)} (h : rs.Perm ss) : nh lo hi rs = nh lo hi ss := h.countP_eq _
/-- a letter is read, some before -/
def cl (lo hi : Int) (o : Option Bool) (ns : List Int) : Nat := cfO o (lets lo hi ns)
def d2 (o : Option Bool) (b : Bool) : Nat := match o with
  | none => 0
  | some a => if a = b then 0 else 1
theorem cl_nil (lo hi : Int) (o : Option Bool) : cl lo hi o [] = 0 := by cases o <;> rfl
theorem cl_cons (lo hi : Int) (o : Option Bool) (x : Int) (ns : List Int) : cl lo hi o (x :: ns) = match lett lo hi x with
    | none => cl lo hi o ns
    | some b => d2 o b + cl lo hi (some b) ns := by
  unfold cl lets
  rw [List.filterMap_cons]
  cases lett lo hi x with
  | none => rfl
  | some b =>
    cases o with
    | none => show cf b _ = 0 + cf b _; omega
    | some a => rfl
theorem lett_lo {lo hi x : Int} (h : x ≤ lo) : lett lo hi x = some true := if_pos h
theorem lett_hi {lo hi x : Int} (h0 : lo < hi) (h : hi ≤ x) : lett lo hi x = some false := by unfold lett; rw [if_neg (by omega), if_pos h]
theorem lett_no {lo hi x : Int} (h1 : lo < x) (h2 : x < hi) : lett lo hi x = none := by unfold lett; rw [if_neg (by omega), if_neg (by omega)]
theorem lett3 (lo hi x : Int) (h0 : lo < hi) : (x ≤ lo ∧ lett lo hi x = some true) ∨ (hi ≤ x ∧ lett lo hi x = some false) ∨ (lo < x ∧ x < hi ∧ lett lo hi x = none) := by
  by_cases a : x ≤ lo
  · exact .inl ⟨a, lett_lo a⟩
  · by_cases b : hi ≤ x
    · exact .inr (.inl ⟨b, lett_hi h0 b⟩)
    · exact .inr (.inr ⟨by omega, by omega, lett_no (by omega) (by omega)⟩)
theorem hl_iff {lo hi : Int} {a b : Int} : hl lo hi (a, b) = decide (a ≤ lo ∧ hi ≤ b) := by
  unfold hl
  by_cases h1 : a ≤ lo <;> by_cases h2 : hi ≤ b <;> simp [h1, h2]
theorem four_up {lo hi a b c d : Int} (h0 : lo < hi) (post : List Int) (o : Option Bool) (h1 : a ≤ c) (h2 : c < b) (h3 : b ≤ d) : cl lo hi o (a :: b :: c :: d :: post) = cl lo hi o (a :: d :: post) + 2 * b1 (hl lo hi (c, b)) := by
  rw [hl_iff]
  simp only [cl_cons]
  rcases lett3 lo hi a h0 with ⟨x1, e1⟩ | ⟨x1, e1⟩ | ⟨x1, y1, e1⟩ <;> rcases lett3 lo hi b h0 with ⟨x2, e2⟩ | ⟨x2, e2⟩ | ⟨x2, y2, e2⟩ <;> rcases lett3 lo hi c h0 with ⟨x3, e3⟩ | ⟨x3, e3⟩ | ⟨x3, y3, e3⟩ <;> rcases lett3 lo hi d h0 with ⟨x4, e4⟩ | ⟨x4, e4⟩ | ⟨x4, y4, e4⟩ <;> first
    | (exfalso; omega)
    | (rw [decide_eq_true (by omega), e1, e2, e3, e4]; simp only [d2, b1]; cases o with
        | none => simp <;> omega
        | some p => cases p <;> simp <;> omega)
    | (rw [decide_eq_false (by omega), e1, e2, e3, e4]; simp only [d2, b1]; cases o with
        | none => simp
        | some p => cases p <;> simp)
theorem four_down {lo hi a b c d : Int} (h0 : lo < hi) (post : List Int) (o : Option Bool) (h1 : c ≤ a) (h2 : b < c) (h3 : d ≤ b) : cl lo hi o (a :: b :: c :: d :: post) = cl lo hi o (a :: d :: post) + 2 * b1 (hl lo hi (b, c)) := by
  rw [hl_iff]
  simp only [cl_cons]
  rcases lett3 lo hi a h0 with ⟨x1, e1⟩ | ⟨x1, e1⟩ | ⟨x1, y1, e1⟩ <;> rcases lett3 lo hi b h0 with ⟨x2, e2⟩ | ⟨x2, e2⟩ | ⟨x2, y2, e2⟩ <;> rcases lett3 lo hi c h0 with ⟨x3, e3⟩ | ⟨x3, e3⟩ | ⟨x3, y3, e3⟩ <;> rcases lett3 lo hi d h0 with ⟨x4, e4⟩ | ⟨x4, e4⟩ | ⟨x4, y4, e4⟩ <;> first
    | (exfalso; omega)
    | (rw [decide_eq_true (by omega), e1, e2, e3, e4]; simp only [d2, b1]; cases o with
        | none => simp <;> omega
        | some p => cases p <;> simp <;> omega)
    | (rw [decide_eq_false (by omega), e1, e2, e3, e4]; simp only [d2, b1]; cases o with
        | none => simp
        | some p => cases p <;> simp)
theorem cl_step {lo hi : Int} (h0 : lo < hi) {p q : List Int} {c : Int × Int} (h : Step p c q) : ZZ p → ∀ o, cl lo hi o p = cl lo hi o q + 2 * b1 (hl lo hi c) := by
  induction h with
  | @here a b c d post t =>
    intro z o
    rcases (taken_iff z.four).mp t with ⟨x1, x2, x3, x4, x5⟩ | ⟨x1, x2, x3, x4, x5⟩
    · rw [rg_down x2]; exact four_up h0 post o x4 x2 x5
    · rw [rg_up x2]; exact four_down h0 post o x4 x2 x5
  | @there x p q cy s ih =>
    intro z o
    rw [cl_cons, cl_cons]
    cases lett lo hi x with
    | none => exact ih z.tail o
    | some b =>
      have := ih z.tail (some b)
      show d2 o b + cl lo hi (some b) p = d2 o b + cl lo hi (some b) q + _
      omega
theorem cl_run {lo hi : Int} (h0 : lo < hi) {p q : List Int} {cs : List (Int × Int)} (h : Run p cs q) : ZZ p → ∀ o, cl lo hi o p = cl lo hi o q + 2 * nh lo hi cs := by
  induction h with
  | nil p => intro _ o; rfl
  | cons s _ ih =>
    intro z o
    rw [cl_step h0 s z o, ih (ZZ.step s z) o, nh_cons]
    omega
/-! the load and its turning points -/
theorem cl_same {lo hi : Int} (o : Option Bool) (a : Int) (l : List Int) : cl lo hi o (a :: a :: l) = cl lo hi o (a :: l) := by
  simp only [cl_cons]
  cases lett lo hi a with
  | none => rfl
  | some b => simp [d2]
theorem cl_btw {lo hi : Int} (h0 : lo < hi) (o : Option Bool) {b a r : Int} (l : List Int) (h : Btw a b r) : cl lo hi o (b :: a :: r :: l) = cl lo hi o (b :: r :: l) := by
  simp only [cl_cons]
  rcases lett3 lo hi a h0 with ⟨x1, e1⟩ | ⟨x1, e1⟩ | ⟨x1, y1, e1⟩ <;> rcases lett3 lo hi b h0 with ⟨x2, e2⟩ | ⟨x2, e2⟩ | ⟨x2, y2, e2⟩ <;> rcases lett3 lo hi r h0 with ⟨x3, e3⟩ | ⟨x3, e3⟩ | ⟨x3, y3, e3⟩ <;> first
    | (exfalso; omega)
    | (rw [e1, e2, e3]; done)
    | (rw [e1, e2, e3]; cases o with
        | none => simp [d2]
        | some p => cases p <;> simp [d2])
theorem cl_tq {lo hi : Int} (h0 : lo < hi) : ∀ (l : List Int) (o : Option Bool) (b a : Int), cl lo hi o (b :: tq b a l) = cl lo hi o (b :: a :: l)
  | [], _, _, _ => rfl
  | r :: l, o, b, a => by
    simp only [tq]
    by_cases e : a = r
    · rw [if_pos e, cl_tq h0 l o b a, ← e, cl_cons lo hi o b (a :: a :: l), cl_cons lo hi o b (a :: l)]
      cases lett lo hi b with
      | none => exact (cl_same _ _ _).symm
      | some x => exact congrArg _ (cl_same _ _ _).symm
    · rw [if_neg e]
      by_cases bt : Btw a b r
      · rw [if_pos bt, cl_tq h0 l o b r, cl_btw h0 o l bt]
      · rw [if_neg bt, cl_cons lo hi o b (a :: tq a r l), cl_cons lo hi o b (a :: r :: l)]
        cases lett lo hi b with
        | none => exact cl_tq h0 l o a r
        | some x => exact congrArg (d2 o x + ·) (cl_tq h0 l (some x) a r)
theorem cl_ts {lo hi : Int} (h0 : lo < hi) : ∀ (l : List Int) (o : Option Bool) (a : Int), cl lo hi o (ts a l) = cl lo hi o (a :: l)
  | [], _, _ => rfl
  | r :: l, o, a => by
    simp only [ts]
    by_cases e : a = r
    · rw [if_pos e, cl_ts h0 l o a, ← e, cl_same]
    · rw [if_neg e, cl_tq h0 l o a r]
theorem cl_tp {lo hi : Int} (h0 : lo < hi) (ns : List Int) : cl lo hi none (tp ns) = chg ns lo hi := by
  cases ns with
  | nil => rfl
  | cons a l => exact cl_ts h0 l none a
/-! the rest: swings that grow and then shrink -/
def In (u v : Int) (ps : List Int) : Prop := ∀ x ∈ ps, u ≤ x ∧ x ≤ v
/-- each swing within the one before -/
def Con : List Int → Prop
  | x :: y :: z :: r => ((y < x ∧ y < z ∧ z ≤ x) ∨ (x < y ∧ z < y ∧ x ≤ z)) ∧ Con (y :: z :: r)
  | _ => True
theorem Con.inside : ∀ {r : List Int} {x y : Int}, Con (x :: y :: r) → x ≠ y → In (if x < y then x else y) (if x < y then y else x) (x :: y :: r)
  | [], x, y, _, h => by
    intro w hw
    rcases List.mem_cons.mp hw with e | hw
    · subst e; split <;> omega
    · rcases List.mem_cons.mp hw with e | hw
      · subst e; split <;> omega
      · exact absurd hw (List.not_mem_nil)
  | z :: r, x, y, c, h => by
    have ih := Con.inside c.2 (by have := c.1; omega)
    intro w hw
    have c1 := c.1
    rcases List.mem_cons.mp hw with e | hw
    · subst e; split <;> omega
    · have := ih w hw
      by_cases e1 : y < z
      · rw [if_pos e1, if_pos e1] at this
        rw [if_neg (by omega), if_neg (by omega)]
        omega
      · rw [if_neg e1, if_neg e1] at this
        rw [if_pos (by omega), if_pos (by omega)]
        omega
theorem nf_con : ∀ {r : List Int} {x y z : Int}, ZZ (x :: y :: z :: r) → NF (x :: y :: z :: r) → ((y < x ∧ z ≤ x) ∨ (x < y ∧ x ≤ z)) → Con (x :: y :: z :: r)
  | [], x, y, z, zz, _, h => ⟨by have := zz.1; omega, trivial⟩
  | w :: r, x, y, z, zz, n, h => by
    have z1 := zz.1
    have z2 := zz.2.1
    refine ⟨by omega, nf_con zz.2 (fun c q s => n _ _ (.there s)) ?_⟩
    have nt : ¬ Taken x y z w := fun t => n _ _ (.here t)
    rw [taken_iff zz.four] at nt
    omega
theorem one_letter {lo hi : Int} {b : Bool} : ∀ (l : List Int) (o : Option Bool), (o = none ∨ o = some b) → (∀ x ∈ l, lett lo hi x = none ∨ lett lo hi x = some b) → cl lo hi o l = 0
  | [], o, _, _ => cl_nil lo hi o
  | x :: l, o, h1, h2 => by
    have ih := fun o h => one_letter l o h (fun x hx => h2 x (List.mem_cons_of_mem _ hx))
    rw [cl_cons]
    rcases h2 x List.mem_cons_self with e | e
    · rw [e]; exact ih o h1
    · rw [e]
      show d2 o b + cl lo hi (some b) l = 0
      rw [ih _ (.inr rfl)]
      rcases h1 with e | e
      · rw [e]; rfl
      · rw [e]; simp [d2]
theorem con_one {lo hi x y : Int} (h0 : lo < hi) {r : List Int} (h : In (if x < y then x else y) (if x < y then y else x) (x :: y :: r)) (ne : x ≠ y) : cl lo hi none (x :: y :: r) = b1 (hl lo hi (rg x y)) + cl lo hi none (y :: r) := by
  have out : ∀ u v, u < v → In u v (x :: y :: r) → hl lo hi (u, v) = false → cl lo hi none (x :: y :: r) = 0 ∧ cl lo hi none (y :: r) = 0 := by
    intro u v huv hin hn
    rw [hl_iff] at hn
    have hn := of_decide_eq_false hn
    by_cases a : u ≤ lo
    · have hb : v < hi := by omega
      have key : ∀ w ∈ x :: y :: r, lett lo hi w = none ∨ lett lo hi w = some true := fun w hw => by
        have := hin w hw
        rcases lett3 lo hi w h0 with ⟨_, e⟩ | ⟨z, e⟩ | ⟨_, _, e⟩
        · exact .inr e
        · omega
        · exact .inl e
      exact ⟨one_letter _ _ (.inl rfl) key, one_letter _ _ (.inl rfl) fun w hw => key w (List.mem_cons_of_mem _ hw)⟩
    · have key : ∀ w ∈ x :: y :: r, lett lo hi w = none ∨ lett lo hi w = some false := fun w hw => by
        have := hin w hw
        rcases lett3 lo hi w h0 with ⟨z, e⟩ | ⟨z, e⟩ | ⟨_, _, e⟩
        · omega
        · exact .inr e
        · exact .inl e
      exact ⟨one_letter _ _ (.inl rfl) key, one_letter _ _ (.inl rfl) fun w hw => key w (List.mem_cons_of_mem _ hw)⟩
  rcases (show x < y ∨ y < x by omega) with h1 | h1
  · rw [if_pos h1, if_pos h1] at h
    rw [rg_up h1]
    cases e : hl lo hi (x, y) with
    | false => obtain ⟨e1, e2⟩ := out x y h1 h e; rw [e1, e2]; rfl
    | true =>
      rw [hl_iff] at e
      have e := of_decide_eq_true e
      rw [cl_cons lo hi none x, cl_cons lo hi none y, lett_lo e.1, lett_hi h0 e.2]
      show d2 none true + cl lo hi (some true) (y :: r) = b1 true + (d2 none false + cl lo hi (some false) r)
      rw [cl_cons, lett_hi h0 e.2]
      simp [d2, b1]
  · rw [if_neg (by omega), if_neg (by omega)] at h
    rw [rg_down h1]
    cases e : hl lo hi (y, x) with
    | false => obtain ⟨e1, e2⟩ := out y x h1 h e; rw [e1, e2]; rfl
    | true =>
      rw [hl_iff] at e
      have e := of_decide_eq_true e
      rw [cl_cons lo hi none x, cl_cons lo hi none y, lett_lo e.1, lett_hi h0 e.2]
      show d2 none false + cl lo hi (some false) (y :: r) = b1 true + (d2 none true + cl lo hi (some true) r)
      rw [cl_cons, lett_lo e.1]
      simp [d2, b1]
theorem wide_one {lo hi x y z : Int} (h0 : lo < hi) {r : List Int} (h : (y < x ∧ x < z) ∨ (x < y ∧ z < x)) : cl lo hi none (x :: y :: z :: r) = b1 (hl lo hi (rg x y)) + cl lo hi none (y :: z :: r) := by
  rcases h with ⟨h1, h2⟩ | ⟨h1, h2⟩
  · rw [rg_down h1, hl_iff]
    simp only [cl_cons]
    rcases lett3 lo hi x h0 with ⟨x1, e1⟩ | ⟨x1, e1⟩ | ⟨x1, y1, e1⟩ <;> rcases lett3 lo hi y h0 with ⟨x2, e2⟩ | ⟨x2, e2⟩ | ⟨x2, y2, e2⟩ <;> rcases lett3 lo hi z h0 with ⟨x3, e3⟩ | ⟨x3, e3⟩ | ⟨x3, y3, e3⟩ <;> first
      | (exfalso; omega)
      | (rw [decide_eq_true (by omega), e1, e2, e3]; simp [d2, b1]; done)
      | (rw [decide_eq_false (by omega), e1, e2, e3]; simp [d2, b1]; done)
  · rw [rg_up h1, hl_iff]
    simp only [cl_cons]
    rcases lett3 lo hi x h0 with ⟨x1, e1⟩ | ⟨x1, e1⟩ | ⟨x1, y1, e1⟩ <;> rcases lett3 lo hi y h0 with ⟨x2, e2⟩ | ⟨x2, e2⟩ | ⟨x2, y2, e2⟩ <;> rcases lett3 lo hi z h0 with ⟨x3, e3⟩ | ⟨x3, e3⟩ | ⟨x3, y3, e3⟩ <;> first
      | (exfalso; omega)
      | (rw [decide_eq_true (by omega), e1, e2, e3]; simp [d2, b1]; done)
      | (rw [decide_eq_false (by omega), e1, e2, e3]; simp [d2, b1]; done)
theorem nf_nh {lo hi : Int} (h0 : lo < hi) : ∀ (ps : List Int), ZZ ps → NF ps → cl lo hi none ps = nh lo hi (sw ps)
  | [], _, _ => rfl
  | [x], _, _ => by
    rw [cl_cons]
    cases lett lo hi x <;> rfl
  | [x, y], zz, _ => by
    have zz : x ≠ y := zz
    show _ = nh lo hi [rg x y]
    rw [nh_cons, con_one h0 (Con.inside (r := []) (x := x) (y := y) (show Con [x, y] from trivial) zz) zz]
    show _ + cl lo hi none [y] = _ + 0
    rw [cl_cons]
    cases lett lo hi y <;> rfl
  | x :: y :: z :: r, zz, n => by
    have ih := nf_nh h0 (y :: z :: r) zz.2 (fun c q s => n _ _ (.there s))
    show _ = nh lo hi (rg x y :: sw (y :: z :: r))
    rw [nh_cons, ← ih]
    have z1 := zz.1
    by_cases h : (y < x ∧ z ≤ x) ∨ (x < y ∧ x ≤ z)
    · exact con_one h0 (Con.inside (nf_con zz n h) (by omega)) (by omega)
    · exact wide_one h0 (by omega)
/-- the changes of a load are the half-cycles that hold the range -/
theorem chg_count {lo hi : Int} (h0 : lo < hi) {ns rs : List Int} {cs : List (Int × Int)} (h : Run (tp ns) cs rs) (n : NF rs) : chg ns lo hi = 2 * nh lo hi cs + nh lo hi (sw rs) := by
  rw [← cl_tp h0, cl_run h0 h (tp_zz ns), nf_nh h0 rs (h.zz (tp_zz ns)) n]
  omega
/-! just a range: the second difference -/
theorem just_one (lo hi : Int) (r : Int × Int) : b1 (decide (r = (lo, hi))) + b1 (hl (lo - 1) hi r) + b1 (hl lo (hi + 1) r) = b1 (hl lo hi r) + b1 (hl (lo - 1) (hi + 1) r) := by
  obtain ⟨u, v⟩ := r
  simp only [hl_iff]
  have e : decide ((u, v) = (lo, hi)) = decide (u = lo ∧ v = hi) := by simp
  rw [e]
  simp only [b1, decide_eq_true_eq]
  repeat' split
  all_goals omega
theorem just {lo hi : Int} : ∀ rs : List (Int × Int), rs.count (lo, hi) + nh (lo - 1) hi rs + nh lo (hi + 1) rs = nh lo hi rs + nh (lo - 1) (hi + 1) rs
  | [] => rfl
  | r :: rs => by
    have ih := just (lo := lo) (hi := hi) rs
    have h1 := just_one lo hi r
    rw [nh_cons, nh_cons, nh_cons, nh_cons, List.count_cons]
    have e : (if (r == (lo, hi)) = true then 1 else 0) = b1 (decide (r = (lo, hi))) := by
      unfold b1
      by_cases z : r = (lo, hi)
      · simp [z]
      · simp [z]
    rw [e]
    omega
end RC

/-! the half-cycles of two loads are the same exactly if their changes are -/
namespace RE
open KM PM RM RN RC
/-- of a load: its half-cycles, sorted -/
structure Hc (ns : List Int) (es : List (Int × Int)) : Prop where
  ex : ∃ cs ds rs, Run (tp ns) cs rs ∧ NF rs ∧ ds.Perm cs ∧ es.Perm (ds ++ ds ++ sw rs)
  srt : es.Pairwise Le
theorem Hc.chg {ns : List Int} {es : List (Int × Int)} (h : Hc ns es) {lo hi : Int} (h0 : lo < hi) : chg ns lo hi = nh lo hi es := by
  obtain ⟨cs, ds, rs, run, nf, p1, p2⟩ := h.ex
  rw [chg_count h0 run nf, nh_perm p2, nh_app, nh_app, nh_perm p1]
  omega
/-- every half-cycle lies within the readings -/
def InR (u v : Int) (r : Int × Int) : Prop := u ≤ r.1 ∧ r.1 < r.2 ∧ r.2 ≤ v
theorem rg_in {u v a b : Int} (ha : u ≤ a ∧ a ≤ v) (hb : u ≤ b ∧ b ≤ v) (ne : a ≠ b) : InR u v (rg a b) := by
  rcases (show a < b ∨ b < a by omega) with h | h
  · rw [rg_up h]; exact ⟨ha.1, h, hb.2⟩
  · rw [rg_down h]; exact ⟨hb.1, h, ha.2⟩
theorem step_in {u v : Int} {p q : List Int} {c : Int × Int} (h : Step p c q) : ZZ p → (∀ x ∈ p, u ≤ x ∧ x ≤ v) → InR u v c ∧ ∀ x ∈ q, u ≤ x ∧ x ≤ v := by
  induction h with
  | @here a b c d post t =>
    intro z hb
    have z1 := z.1
    refine ⟨rg_in (hb b (by simp)) (hb c (by simp)) (by omega), fun x hx => ?_⟩
    rcases List.mem_cons.mp hx with e | hx
    · exact hb x (by simp [e])
    · rcases List.mem_cons.mp hx with e | hx
      · exact hb x (by simp [e])
      · exact hb x (by simp [hx])
  | @there x p q cy s ih =>
    intro z hb
    obtain ⟨h1, h2⟩ := ih z.tail fun y hy => hb y (List.mem_cons_of_mem _ hy)
    refine ⟨h1, fun y hy => ?_⟩
    rcases List.mem_cons.mp hy with e | hy
    · exact hb y (by simp [e])
    · exact h2 y hy
theorem run_in {u v : Int} {p q : List Int} {cs : List (Int × Int)} (h : Run p cs q) : ZZ p → (∀ x ∈ p, u ≤ x ∧ x ≤ v) → (∀ c ∈ cs, InR u v c) ∧ ∀ x ∈ q, u ≤ x ∧ x ≤ v := by
  induction h with
  | nil p => exact fun _ hb => ⟨fun _ z => (List.not_mem_nil z).elim, hb⟩
  | cons s _ ih =>
    intro z hb
    obtain ⟨h1, h2⟩ := step_in s z hb
    obtain ⟨h3, h4⟩ := ih (ZZ.step s z) h2
    refine ⟨fun c hc => ?_, h4⟩
    rcases List.mem_cons.mp hc with e | hc
    · rw [e]; exact h1
    · exact h3 c hc
theorem sw_in {u v : Int} : ∀ {ps : List Int}, ZZ ps → (∀ x ∈ ps, u ≤ x ∧ x ≤ v) → ∀ r ∈ sw ps, InR u v r
  | [], _, _, r, h => by simp [sw] at h
  | [_], _, _, r, h => by simp [sw] at h
  | x :: y :: l, z, hb, r, h => by
    rcases List.mem_cons.mp (show r ∈ rg x y :: sw (y :: l) from h) with e | h
    · rw [e]; exact rg_in (hb x (by simp)) (hb y (by simp)) (zz_cons z)
    · exact sw_in z.tail (fun w hw => hb w (List.mem_cons_of_mem _ hw)) r h
theorem Hc.inr {u v : Int} {ns : List Int} {es : List (Int × Int)} (h : Hc ns es) (hb : ∀ x ∈ ns, u ≤ x ∧ x ≤ v) : ∀ r ∈ es, InR u v r := by
  obtain ⟨cs, ds, rs, run, nf, p1, p2⟩ := h.ex
  obtain ⟨h1, h2⟩ := run_in run (tp_zz ns) fun x hx => hb x (tp_mem hx)
  intro r hr
  rcases List.mem_append.mp (p2.mem_iff.mp hr) with z | z
  · rcases List.mem_append.mp z with z | z
    · exact h1 r (p1.mem_iff.mp z)
    · exact h1 r (p1.mem_iff.mp z)
  · exact sw_in (run.zz (tp_zz ns)) h2 r z
/-- two loads within u..v -/
theorem same_iff {u v : Int} {ns ms : List Int} {es fs : List (Int × Int)} (h : Hc ns es) (g : Hc ms fs) (hb : ∀ x ∈ ns, u ≤ x ∧ x ≤ v) (gb : ∀ x ∈ ms, u ≤ x ∧ x ≤ v) :
    es = fs ↔ ∀ lo hi : Int, u - 1 ≤ lo → lo < hi → hi ≤ v + 1 → KM.chg ns lo hi = KM.chg ms lo hi := by
  constructor
  · intro e lo hi _ h0 _
    rw [h.chg h0, g.chg h0, e]
  · intro e
    refine sorted_same (List.perm_iff_count.mpr fun r => ?_) h.srt g.srt
    obtain ⟨lo, hi⟩ := r
    by_cases z : u ≤ lo ∧ lo < hi ∧ hi ≤ v
    · have j1 := just (lo := lo) (hi := hi) es
      have j2 := just (lo := lo) (hi := hi) fs
      have k : ∀ a b : Int, u - 1 ≤ a → a < b → b ≤ v + 1 → nh a b es = nh a b fs := fun a b h1 h2 h3 => by rw [← h.chg h2, ← g.chg h2, e a b h1 h2 h3]
      have k1 := k lo hi (by omega) (by omega) (by omega)
      have k2 := k (lo - 1) hi (by omega) (by omega) (by omega)
      have k3 := k lo (hi + 1) (by omega) (by omega) (by omega)
      have k4 := k (lo - 1) (hi + 1) (by omega) (by omega) (by omega)
      omega
    · rw [List.count_eq_zero.mpr fun m => z (show u ≤ lo ∧ lo < hi ∧ hi ≤ v from h.inr hb (lo, hi) m), List.count_eq_zero.mpr fun m => z (show u ≤ lo ∧ lo < hi ∧ hi ≤ v from g.inr gb (lo, hi) m)]
end RE

/-! the number of half-cycles in an up-set of ranges never grows when readings are left out -/
namespace K52
open KM PM RM RN RC
/-- a set of ranges that goes on to wider ones -/
structure Up (U : Int → Int → Bool) : Prop where
  up : ∀ {a b c d : Int}, c ≤ a → b ≤ d → U a b = true → U c d = true
  lt : ∀ {a b : Int}, U a b = true → a < b
inductive S where
  | no
  | bo (m M : Int)
  | up (m : Int)
  | dn (M : Int)
def mn (a b : Int) : Int := if a ≤ b then a else b
def mx (a b : Int) : Int := if a ≤ b then b else a
theorem mn1 (a b : Int) : mn a b ≤ a := by unfold mn; split <;> omega
theorem mn2 (a b : Int) : mn a b ≤ b := by unfold mn; split <;> omega
theorem mx1 (a b : Int) : a ≤ mx a b := by unfold mx; split <;> omega
theorem mx2 (a b : Int) : b ≤ mx a b := by unfold mx; split <;> omega
def nx (U : Int → Int → Bool) : S → Int → S
  | .no, r => .bo r r
  | .bo m M, r => if U m r = true then .dn r else if U r M = true then .up r else .bo (mn m r) (mx M r)
  | .up m, r => if U m r = true then .dn r else .up (mn m r)
  | .dn M, r => if U r M = true then .up r else .dn (mx M r)
def ky (U : Int → Int → Bool) : S → Int → Nat
  | .no, _ => 0
  | .bo m M, r => if U m r = true then 1 else if U r M = true then 1 else 0
  | .up m, r => if U m r = true then 1 else 0
  | .dn M, r => if U r M = true then 1 else 0
def g (U : Int → Int → Bool) : S → List Int → Nat
  | _, [] => 0
  | s, r :: l => ky U s r + g U (nx U s r) l
/-- what stands behind a reading -/
def Seen (U : Int → Int → Bool) : S → Int → Prop
  | .no, _ => False
  | .bo m M, a => m ≤ a ∧ a ≤ M ∧ U m M = false
  | .up m, a => m ≤ a ∧ U m a = false
  | .dn M, a => a ≤ M ∧ U a M = false
def Ok (U : Int → Int → Bool) : S → Prop
  | .bo m M => m ≤ M ∧ U m M = false
  | _ => True
section
variable {U : Int → Int → Bool}
theorem Up.no (h : Up U) {a b c d : Int} (h1 : c ≤ a) (h2 : b ≤ d) (e : U c d = false) : U a b = false := by
  cases x : U a b with
  | false => rfl
  | true => rw [h.up h1 h2 x] at e; exact e
theorem Up.ge (h : Up U) {a b : Int} (e : b ≤ a) : U a b = false := by
  cases x : U a b with
  | false => rfl
  | true => have := h.lt x; omega
theorem seen_nx (h : Up U) {s : S} {a : Int} (o : Ok U s) : Seen U (nx U s a) a ∧ Ok U (nx U s a) := by
  cases s with
  | no => exact ⟨⟨Int.le_refl _, Int.le_refl _, h.ge (Int.le_refl _)⟩, Int.le_refl _, h.ge (Int.le_refl _)⟩
  | bo m M =>
    obtain ⟨o1, o2⟩ := o
    simp only [nx]
    split
    · exact ⟨⟨Int.le_refl _, h.ge (Int.le_refl _)⟩, trivial⟩
    · split
      · exact ⟨⟨Int.le_refl _, h.ge (Int.le_refl _)⟩, trivial⟩
      · rename_i h1 h2
        have e : U (mn m a) (mx M a) = false := by
          unfold mn mx
          split <;> split
          · simpa using h1
          · exact o2
          · exact h.ge (by omega)
          · simpa using h2
        have := mn1 m a
        have := mx1 M a
        exact ⟨⟨mn2 _ _, mx2 _ _, e⟩, by omega, e⟩
  | up m =>
    simp only [nx]
    split
    · exact ⟨⟨Int.le_refl _, h.ge (Int.le_refl _)⟩, trivial⟩
    · rename_i h1
      refine ⟨⟨mn2 _ _, ?_⟩, trivial⟩
      unfold mn
      split
      · simpa using h1
      · exact h.ge (Int.le_refl _)
  | dn M =>
    simp only [nx]
    split
    · exact ⟨⟨Int.le_refl _, h.ge (Int.le_refl _)⟩, trivial⟩
    · rename_i h1
      refine ⟨⟨mx2 _ _, ?_⟩, trivial⟩
      unfold mx
      split
      · exact h.ge (Int.le_refl _)
      · simpa using h1
theorem nx_same (h : Up U) {s : S} {a : Int} (o : Seen U s a) : nx U s a = s ∧ ky U s a = 0 := by
  cases s with
  | no => exact o.elim
  | bo m M =>
    obtain ⟨o1, o2, o3⟩ := o
    have e1 := h.no (Int.le_refl m) o2 o3
    have e2 := h.no o1 (Int.le_refl M) o3
    simp only [nx, ky, e1, e2, mn, mx]
    constructor
    · rw [if_neg (by simp), if_neg (by simp), if_pos o1]
      split
      · rw [show M = a by omega]
      · rfl
    · simp
  | up m =>
    obtain ⟨o1, o2⟩ := o
    simp [nx, ky, o2, mn, o1]
  | dn M =>
    obtain ⟨o1, o2⟩ := o
    simp only [nx, ky, o2, mx]
    constructor
    · rw [if_neg (by simp)]
      split
      · rw [show M = a by omega]
      · rfl
    · simp
theorem g_same (h : Up U) {s : S} {a : Int} (o : Seen U s a) (l : List Int) : g U s (a :: l) = g U s l := by
  obtain ⟨e1, e2⟩ := nx_same h o
  show ky U s a + g U (nx U s a) l = _
  rw [e1, e2, Nat.zero_add]
def b2 (b : Bool) : Nat := if b = true then 1 else 0

theorem mnl {a b : Int} (h : a ≤ b) : mn a b = a := if_pos h
theorem mnr {a b : Int} (h : b ≤ a) : mn a b = b := by unfold mn; split <;> omega
theorem mxl {a b : Int} (h : b ≤ a) : mx a b = a := by unfold mx; split <;> omega
theorem mxr {a b : Int} (h : a ≤ b) : mx a b = b := if_pos h
theorem bo_u {m M r : Int} (e : U m r = true) (l : List Int) : g U (.bo m M) (r :: l) = 1 + g U (.dn r) l := by simp [g, nx, ky, e]
theorem bo_d {m M r : Int} (e1 : U m r = false) (e : U r M = true) (l : List Int) : g U (.bo m M) (r :: l) = 1 + g U (.up r) l := by simp [g, nx, ky, e, e1]
theorem bo_n {m M r : Int} (e1 : U m r = false) (e : U r M = false) (l : List Int) : g U (.bo m M) (r :: l) = g U (.bo (mn m r) (mx M r)) l := by simp [g, nx, ky, e, e1]
theorem up_y {m r : Int} (e : U m r = true) (l : List Int) : g U (.up m) (r :: l) = 1 + g U (.dn r) l := by simp [g, nx, ky, e]
theorem up_n {m r : Int} (e : U m r = false) (l : List Int) : g U (.up m) (r :: l) = g U (.up (mn m r)) l := by simp [g, nx, ky, e]
theorem dn_y {M r : Int} (e : U r M = true) (l : List Int) : g U (.dn M) (r :: l) = 1 + g U (.up r) l := by simp [g, nx, ky, e]
theorem dn_n {M r : Int} (e : U r M = false) (l : List Int) : g U (.dn M) (r :: l) = g U (.dn (mx M r)) l := by simp [g, nx, ky, e]
theorem no_1 {r : Int} (l : List Int) : g U .no (r :: l) = g U (.bo r r) l := by simp [g, nx, ky]
theorem four_up (h : Up U) {s : S} {a b c d : Int} (o : Seen U s a) (post : List Int) (h1 : a ≤ c) (h2 : c < b) (h3 : b ≤ d) : g U s (b :: c :: d :: post) = g U s (d :: post) + 2 * b2 (U c b) := by
  cases s with
  | no => exact o.elim
  | bo m M =>
    obtain ⟨o1, o2, o3⟩ := o
    cases e : U m b with
    | true =>
      have hb : M < b := by
        apply Classical.byContradiction; intro z
        rw [h.no (Int.le_refl m) (show b ≤ M by omega) o3] at e
        cases e
      rw [bo_u e, bo_u (h.up (Int.le_refl m) h3 e)]
      cases f : U c b with
      | true => rw [dn_y f, up_y (h.up (Int.le_refl c) h3 f)]; simp [b2]; omega
      | false => rw [dn_n f, mxl (by omega), dn_n (h.ge h3), mxr h3]; simp [b2]
    | false =>
      have f := h.no (show m ≤ c by omega) (Int.le_refl b) e
      rw [f, bo_n e (h.no (show m ≤ b by omega) (Int.le_refl M) o3), mnl (by omega)]
      have e2 : U c (mx M b) = false := by
        unfold mx; split
        · exact f
        · exact h.no (show m ≤ c by omega) (Int.le_refl M) o3
      have q1 := mx1 M b
      have q2 := mx2 M b
      rw [bo_n (h.no (Int.le_refl m) (show c ≤ b by omega) e) e2, mnl (by omega), mxl (show c ≤ mx M b by omega)]
      cases k : U m d with
      | true => rw [bo_u k, bo_u k]; simp [b2]
      | false =>
        have e3 : U d (mx M b) = false := by
          unfold mx; split
          · exact h.ge h3
          · exact h.no (show m ≤ d by omega) (Int.le_refl M) o3
        rw [bo_n k e3, bo_n k (h.no (show m ≤ d by omega) (Int.le_refl M) o3)]
        have : mx (mx M b) d = mx M d := by unfold mx; repeat (first | split | omega)
        rw [this]; simp [b2]
  | up m =>
    obtain ⟨o1, o2⟩ := o
    cases e : U m b with
    | true =>
      rw [up_y e, up_y (h.up (Int.le_refl m) h3 e)]
      cases f : U c b with
      | true => rw [dn_y f, up_y (h.up (Int.le_refl c) h3 f)]; simp [b2]; omega
      | false => rw [dn_n f, mxl (by omega), dn_n (h.ge h3), mxr h3]; simp [b2]
    | false =>
      rw [h.no (show m ≤ c by omega) (Int.le_refl b) e, up_n e, mnl (by omega), up_n (h.no (Int.le_refl m) (show c ≤ b by omega) e), mnl (by omega)]
      simp [b2]
  | dn M =>
    obtain ⟨o1, o2⟩ := o
    rw [dn_n (h.no (show a ≤ b by omega) (Int.le_refl M) o2)]
    by_cases q : b ≤ M
    · rw [mxl q, dn_n (h.no h1 (Int.le_refl M) o2), mxl (by omega), h.no h1 q o2]; simp [b2]
    · rw [mxr (by omega), dn_n (h.ge (show M ≤ d by omega)), mxr (show M ≤ d by omega)]
      cases f : U c b with
      | true => rw [dn_y f, up_y (h.up (Int.le_refl c) h3 f)]; simp [b2]; omega
      | false => rw [dn_n f, mxl (by omega), dn_n (h.ge h3), mxr h3]; simp [b2]
theorem four_down (h : Up U) {s : S} {a b c d : Int} (o : Seen U s a) (post : List Int) (h1 : c ≤ a) (h2 : b < c) (h3 : d ≤ b) : g U s (b :: c :: d :: post) = g U s (d :: post) + 2 * b2 (U b c) := by
  cases s with
  | no => exact o.elim
  | bo m M =>
    obtain ⟨o1, o2, o3⟩ := o
    rw [show g U (.bo m M) (b :: c :: d :: post) = _ from rfl]
    have k1 := h.no (Int.le_refl m) (show b ≤ M by omega) o3
    have k2 := h.no (Int.le_refl m) (show d ≤ M by omega) o3
    cases e : U b M with
    | true =>
      have hb : b < m := by
        apply Classical.byContradiction; intro z
        rw [h.no (show m ≤ b by omega) (Int.le_refl M) o3] at e
        cases e
      rw [bo_d k1 e, bo_d k2 (h.up h3 (Int.le_refl M) e)]
      cases f : U b c with
      | true => rw [up_y f, dn_y (h.up h3 (Int.le_refl c) f)]; simp [b2]; omega
      | false => rw [up_n f, mnl (by omega), up_n (h.ge h3), mnr h3]; simp [b2]
    | false =>
      have f := h.no (Int.le_refl b) (show c ≤ M by omega) e
      rw [f, bo_n k1 e, mxl (show b ≤ M by omega)]
      have q1 := mn1 m b
      have q2 := mn2 m b
      have e2 : U (mn m b) c = false := by
        unfold mn; split
        · exact h.no (Int.le_refl m) (show c ≤ M by omega) o3
        · exact f
      rw [bo_n e2 (h.no (show b ≤ c by omega) (Int.le_refl M) e), mnl (show mn m b ≤ c by omega), mxl (show c ≤ M by omega)]
      have e3 : U (mn m b) d = false := by
        unfold mn; split
        · exact k2
        · exact h.ge h3
      cases k : U d M with
      | true => rw [bo_d e3 k, bo_d k2 k]; simp [b2]
      | false =>
        rw [bo_n e3 k, bo_n k2 k]
        have : mn (mn m b) d = mn m d := by unfold mn; repeat (first | split | omega)
        rw [this]; simp [b2]
  | up m =>
    obtain ⟨o1, o2⟩ := o
    rw [up_n (h.no (Int.le_refl m) (show b ≤ a by omega) o2)]
    by_cases q : m ≤ b
    · rw [mnl q, up_n (h.no (Int.le_refl m) h1 o2), mnl (by omega), h.no q h1 o2]; simp [b2]
    · rw [mnr (by omega), up_n (h.ge (show d ≤ m by omega)), mnr (show d ≤ m by omega)]
      cases f : U b c with
      | true => rw [up_y f, dn_y (h.up h3 (Int.le_refl c) f)]; simp [b2]; omega
      | false => rw [up_n f, mnl (by omega), up_n (h.ge h3), mnr h3]; simp [b2]
  | dn M =>
    obtain ⟨o1, o2⟩ := o
    cases e : U b M with
    | true =>
      rw [dn_y e, dn_y (h.up h3 (Int.le_refl M) e)]
      cases f : U b c with
      | true => rw [up_y f, dn_y (h.up h3 (Int.le_refl c) f)]; simp [b2]; omega
      | false => rw [up_n f, mnl (by omega), up_n (h.ge h3), mnr h3]; simp [b2]
    | false =>
      rw [h.no (Int.le_refl b) (show c ≤ M by omega) e, dn_n e, mxl (by omega), dn_n (h.no (show b ≤ c by omega) (Int.le_refl M) e), mxl (by omega)]
      simp [b2]
theorem g_btw (h : Up U) {s : S} {b a r : Int} (o : Seen U s b) (l : List Int) (z : Btw a b r) : g U s (a :: r :: l) = g U s (r :: l) := by
  rcases (show (b ≤ a ∧ a ≤ r) ∨ (r ≤ a ∧ a ≤ b) from by unfold Btw at z; omega) with ⟨h1, h2⟩ | ⟨h1, h2⟩
  · cases s with
    | no => exact o.elim
    | up m =>
      obtain ⟨o1, o2⟩ := o
      cases e : U m a with
      | true => rw [up_y e, dn_n (h.ge h2), mxr h2, up_y (h.up (Int.le_refl m) h2 e)]
      | false => rw [up_n e, mnl (by omega)]
    | dn M =>
      obtain ⟨o1, o2⟩ := o
      rw [dn_n (h.no h1 (Int.le_refl M) o2)]
      by_cases q : a ≤ M
      · rw [mxl q]
      · rw [mxr (by omega), dn_n (h.ge h2), mxr h2, dn_n (h.ge (show M ≤ r by omega)), mxr (show M ≤ r by omega)]
    | bo m M =>
      obtain ⟨o1, o2, o3⟩ := o
      have n3 := h.no (show m ≤ r by omega) (Int.le_refl M) o3
      cases e : U m a with
      | true => rw [bo_u e, dn_n (h.ge h2), mxr h2, bo_u (h.up (Int.le_refl m) h2 e)]
      | false =>
        rw [bo_n e (h.no (show m ≤ a by omega) (Int.le_refl M) o3), mnl (by omega)]
        cases k : U m r with
        | true => rw [bo_u k, bo_u k]
        | false =>
          have e3 : U r (mx M a) = false := by
            unfold mx; split
            · exact h.ge h2
            · exact n3
          rw [bo_n k e3, bo_n k n3]
          have : mx (mx M a) r = mx M r := by unfold mx; repeat (first | split | omega)
          rw [this]
  · cases s with
    | no => exact o.elim
    | dn M =>
      obtain ⟨o1, o2⟩ := o
      cases e : U a M with
      | true => rw [dn_y e, up_n (h.ge h1), mnr h1, dn_y (h.up h1 (Int.le_refl M) e)]
      | false => rw [dn_n e, mxl (by omega)]
    | up m =>
      obtain ⟨o1, o2⟩ := o
      rw [up_n (h.no (Int.le_refl m) h2 o2)]
      by_cases q : m ≤ a
      · rw [mnl q]
      · rw [mnr (by omega), up_n (h.ge h1), mnr h1, up_n (h.ge (show r ≤ m by omega)), mnr (show r ≤ m by omega)]
    | bo m M =>
      obtain ⟨o1, o2, o3⟩ := o
      have n3 := h.no (Int.le_refl m) (show r ≤ M by omega) o3
      have n4 := h.no (Int.le_refl m) (show a ≤ M by omega) o3
      cases e : U a M with
      | true => rw [bo_d n4 e, up_n (h.ge h1), mnr h1, bo_d n3 (h.up h1 (Int.le_refl M) e)]
      | false =>
        rw [bo_n n4 e, mxl (by omega)]
        have e3 : U (mn m a) r = false := by
          unfold mn; split
          · exact n3
          · exact h.ge h1
        cases k : U r M with
        | true => rw [bo_d e3 k, bo_d n3 k]
        | false =>
          rw [bo_n e3 k, bo_n n3 k]
          have : mn (mn m a) r = mn m r := by unfold mn; repeat (first | split | omega)
          rw [this]
theorem g_cons (s : S) (r : Int) (l : List Int) : g U s (r :: l) = ky U s r + g U (nx U s r) l := rfl
/-- how many ranges are in the set -/
def nU (U : Int → Int → Bool) (rs : List (Int × Int)) : Nat := rs.countP fun r => U r.1 r.2
theorem nU_cons (r : Int × Int) (rs : List (Int × Int)) : nU U (r :: rs) = b2 (U r.1 r.2) + nU U rs := by
  unfold nU b2
  rw [List.countP_cons]
  omega
theorem g_step (h : Up U) {p q : List Int} {c : Int × Int} (t : Step p c q) : ZZ p → ∀ s, Ok U s → g U s p = g U s q + 2 * b2 (U c.1 c.2) := by
  induction t with
  | @here a b c d post t =>
    intro z s o
    have sn := (seen_nx h (a := a) o).1
    rcases (taken_iff z.four).mp t with ⟨x1, x2, x3, x4, x5⟩ | ⟨x1, x2, x3, x4, x5⟩
    · rw [rg_down x2, g_cons, g_cons s a (d :: post), four_up h sn post x4 x2 x5]; dsimp only; omega
    · rw [rg_up x2, g_cons, g_cons s a (d :: post), four_down h sn post x4 x2 x5]; dsimp only; omega
  | @there x p q cy t ih =>
    intro z s o
    rw [g_cons, g_cons, ih z.tail _ (seen_nx h o).2]
    omega
theorem g_run (h : Up U) {p q : List Int} {cs : List (Int × Int)} (t : Run p cs q) : ZZ p → ∀ s, Ok U s → g U s p = g U s q + 2 * nU U cs := by
  induction t with
  | nil p => intro _ s _; rfl
  | cons t _ ih =>
    intro z s o
    rw [g_step h t z s o, ih (ZZ.step t z) s o, nU_cons]
    omega
theorem g_tq (h : Up U) : ∀ (l : List Int) (s : S) (b a : Int), Seen U s b → Ok U s → g U s (tq b a l) = g U s (a :: l)
  | [], _, _, _, _, _ => rfl
  | r :: l, s, b, a, o, k => by
    simp only [tq]
    by_cases e : a = r
    · rw [if_pos e, g_tq h l s b a o k, ← e, g_cons, g_cons s a (a :: l), g_same h (seen_nx h k).1]
    · rw [if_neg e]
      by_cases bt : Btw a b r
      · rw [if_pos bt, g_tq h l s b r o k, g_btw h o l bt]
      · rw [if_neg bt, g_cons, g_cons s a (r :: l), g_tq h l _ a r (seen_nx h k).1 (seen_nx h k).2]
theorem g_ts (h : Up U) : ∀ (l : List Int) (s : S) (a : Int), Ok U s → g U s (ts a l) = g U s (a :: l)
  | [], _, _, _ => rfl
  | r :: l, s, a, k => by
    simp only [ts]
    by_cases e : a = r
    · rw [if_pos e, g_ts h l s a k, ← e, g_cons, g_cons s a (a :: l), g_same h (seen_nx h k).1]
    · rw [if_neg e, g_cons, g_cons s a (r :: l), g_tq h l _ a r (seen_nx h k).1 (seen_nx h k).2]
theorem g_tp (h : Up U) (ns : List Int) : g U .no (tp ns) = g U .no ns := by
  cases ns with
  | nil => rfl
  | cons a l => exact g_ts h l .no a trivial
theorem dn_bo (h : Up U) {M : Int} : ∀ (r : List Int) (m : Int), (∀ w ∈ r, w ≤ M) → m ≤ M → U m M = false → g U (.dn M) r = g U (.bo m M) r
  | [], _, _, _, _ => rfl
  | w :: r, m, hw, hm, e => by
    have w1 := hw w List.mem_cons_self
    have e1 := h.no (Int.le_refl m) w1 e
    cases k : U w M with
    | true => rw [dn_y k, bo_d e1 k]
    | false =>
      rw [dn_n k, bo_n e1 k, mxl w1]
      refine dn_bo h r _ (fun v hv => hw v (List.mem_cons_of_mem _ hv)) ?_ ?_
      · have := mn1 m w; omega
      · unfold mn; split
        · exact e
        · exact k
theorem up_bo (h : Up U) {m : Int} : ∀ (r : List Int) (M : Int), (∀ w ∈ r, m ≤ w) → m ≤ M → U m M = false → g U (.up m) r = g U (.bo m M) r
  | [], _, _, _, _ => rfl
  | w :: r, M, hw, hm, e => by
    have w1 := hw w List.mem_cons_self
    have e1 := h.no w1 (Int.le_refl M) e
    cases k : U m w with
    | true => rw [up_y k, bo_u k]
    | false =>
      rw [up_n k, bo_n k e1, mnl w1]
      refine up_bo h r _ (fun v hv => hw v (List.mem_cons_of_mem _ hv)) ?_ ?_
      · have := mx1 M w; omega
      · unfold mx; split
        · exact k
        · exact e
theorem bo_none (h : Up U) {u v : Int} (e : U u v = false) : ∀ (r : List Int) (m M : Int), (∀ w ∈ r, u ≤ w ∧ w ≤ v) → u ≤ m → M ≤ v → g U (.bo m M) r = 0
  | [], _, _, _, _, _ => rfl
  | w :: r, m, M, hw, hm, hM => by
    have w1 := hw w List.mem_cons_self
    rw [bo_n (h.no hm w1.2 e) (h.no w1.1 hM e)]
    refine bo_none h e r _ _ (fun x hx => hw x (List.mem_cons_of_mem _ hx)) ?_ ?_
    · unfold mn; split <;> omega
    · unfold mx; split <;> omega
theorem con_one (h : Up U) {x y : Int} {r : List Int} (c : In (if x < y then x else y) (if x < y then y else x) (x :: y :: r)) (ne : x ≠ y) : g U .no (x :: y :: r) = b2 (U (rg x y).1 (rg x y).2) + g U .no (y :: r) := by
  have ge := h.ge (Int.le_refl y)
  rcases (show x < y ∨ y < x by omega) with h1 | h1
  · rw [if_pos h1, if_pos h1] at c
    have cr : ∀ w ∈ r, x ≤ w ∧ w ≤ y := fun w hw => c w (List.mem_cons_of_mem _ (List.mem_cons_of_mem _ hw))
    rw [rg_up h1, no_1, no_1]
    show _ = b2 (U x y) + _
    cases e : U x y with
    | true => rw [bo_u e, dn_bo h r y (fun w hw => (cr w hw).2) (Int.le_refl y) ge]; simp [b2]
    | false => rw [bo_n e (h.ge (show x ≤ y by omega)), mnl (by omega), mxr (by omega), bo_none h e r x y cr (Int.le_refl _) (Int.le_refl _), bo_none h e r y y cr (by omega) (Int.le_refl _)]; simp [b2]
  · rw [if_neg (by omega), if_neg (by omega)] at c
    have cr : ∀ w ∈ r, y ≤ w ∧ w ≤ x := fun w hw => c w (List.mem_cons_of_mem _ (List.mem_cons_of_mem _ hw))
    rw [rg_down h1, no_1, no_1]
    show _ = b2 (U y x) + _
    have f := h.ge (show y ≤ x by omega)
    cases e : U y x with
    | true => rw [bo_d f e, up_bo h r y (fun w hw => (cr w hw).1) (Int.le_refl y) ge]; simp [b2]
    | false => rw [bo_n f e, mnr (by omega), mxl (by omega), bo_none h e r y x cr (Int.le_refl _) (Int.le_refl _), bo_none h e r y y cr (Int.le_refl _) (by omega)]; simp [b2]
theorem wide_one (h : Up U) {x y z : Int} {r : List Int} (k : (y < x ∧ x < z) ∨ (x < y ∧ z < x)) : g U .no (x :: y :: z :: r) = b2 (U (rg x y).1 (rg x y).2) + g U .no (y :: z :: r) := by
  rcases k with ⟨h1, h2⟩ | ⟨h1, h2⟩
  · rw [rg_down h1, no_1, no_1]
    show _ = b2 (U y x) + _
    have f := h.ge (show y ≤ x by omega)
    have fz := h.ge (show y ≤ z by omega)
    cases e : U y x with
    | true =>
      have k := h.up (Int.le_refl y) (show x ≤ z by omega) e
      rw [bo_d f e, up_y k, bo_u k]; simp [b2]
    | false =>
      rw [bo_n f e, mnr (by omega), mxl (by omega)]
      cases k : U y z with
      | true => rw [bo_u k, bo_u k]; simp [b2]
      | false => rw [bo_n k (h.ge (show x ≤ z by omega)), bo_n k fz, mxr (show x ≤ z by omega), mxr (show y ≤ z by omega)]; simp [b2]
  · rw [rg_up h1, no_1, no_1]
    show _ = b2 (U x y) + _
    have f := h.ge (show x ≤ y by omega)
    have fz := h.ge (show z ≤ y by omega)
    cases e : U x y with
    | true =>
      have k := h.up (show z ≤ x by omega) (Int.le_refl y) e
      rw [bo_u e, dn_y k, bo_d fz k]; simp [b2]
    | false =>
      rw [bo_n e f, mnl (by omega), mxr (by omega)]
      cases k : U z y with
      | true => rw [bo_d (h.ge (show z ≤ x by omega)) k, bo_d fz k]; simp [b2]
      | false => rw [bo_n (h.ge (show z ≤ x by omega)) k, bo_n fz k, mnr (show z ≤ x by omega), mnr (show z ≤ y by omega)]; simp [b2]
theorem nf_g (h : Up U) : ∀ (ps : List Int), ZZ ps → NF ps → g U .no ps = nU U (sw ps)
  | [], _, _ => rfl
  | [x], _, _ => rfl
  | [x, y], zz, _ => by
    have zz : x ≠ y := zz
    show _ = nU U [rg x y]
    rw [nU_cons, con_one h (Con.inside (r := []) (x := x) (y := y) (show Con [x, y] from trivial) zz) zz]
    rfl
  | x :: y :: z :: r, zz, n => by
    have ih := nf_g h (y :: z :: r) zz.2 (fun c q s => n _ _ (.there s))
    show _ = nU U (rg x y :: sw (y :: z :: r))
    rw [nU_cons, ← ih]
    have z1 := zz.1
    by_cases k : (y < x ∧ z ≤ x) ∨ (x < y ∧ x ≤ z)
    · exact con_one h (Con.inside (nf_con zz n k) (by omega)) (by omega)
    · exact wide_one h (by omega)
/-- the half-cycles of a load that are in the set -/
theorem count_g (h : Up U) {ns rs : List Int} {cs : List (Int × Int)} (t : Run (tp ns) cs rs) (n : NF rs) : g U .no ns = 2 * nU U cs + nU U (sw rs) := by
  rw [← g_tp h, g_run h t (tp_zz ns) .no trivial, nf_g h rs (t.zz (tp_zz ns)) n]
  omega
/-! readings left out -/
def R (U : Int → Int → Bool) : S → S → Nat → Prop
  | .no, .no, k => k = 0
  | .no, .bo m M, k => k = 0 ∧ m ≤ M ∧ U m M = false
  | .no, .up _, k => 1 ≤ k
  | .no, .dn _, k => 1 ≤ k
  | .bo m M, .bo m2 M2, k => k = 0 ∧ m2 ≤ m ∧ M ≤ M2 ∧ m ≤ M ∧ U m2 M2 = false
  | .bo m _, .up m2, k => 2 ≤ k ∨ (k = 1 ∧ m2 ≤ m)
  | .bo _ M, .dn M2, k => 2 ≤ k ∨ (k = 1 ∧ M ≤ M2)
  | .up m, .up m2, k => 2 ≤ k ∨ m2 ≤ m
  | .dn M, .dn M2, k => 2 ≤ k ∨ M ≤ M2
  | .up _, .dn _, k => 1 ≤ k
  | .dn _, .up _, k => 1 ≤ k
  | _, _, _ => False

theorem R_skip (h : Up U) {s t : S} {k : Nat} (r : Int) (hR : R U s t k) : R U s (nx U t r) (k + ky U t r) := by
  have hup := @Up.up U h
  have hlt := @Up.lt U h
  cases s <;> cases t <;> simp only [R] at hR <;> (try exact hR.elim) <;> simp only [nx, ky] <;> (repeat' split) <;> simp only [R, mn, mx] <;> grind
theorem R_both (h : Up U) {s t : S} {k : Nat} (r : Int) (hR : R U s t k) : ky U s r ≤ k + ky U t r ∧ R U (nx U s r) (nx U t r) (k + ky U t r - ky U s r) := by
  have hup := @Up.up U h
  have hlt := @Up.lt U h
  cases s <;> cases t <;> simp only [R] at hR <;> (try exact hR.elim) <;> simp only [nx, ky] <;> (repeat' split) <;> simp only [R, mn, mx] <;> grind
theorem g_sub (h : Up U) {l m : List Int} (t : l.Sublist m) : ∀ (s u : S) (k : Nat), R U s u k → g U s l ≤ k + g U u m := by
  induction t with
  | slnil => intro s u k _; exact Nat.zero_le _
  | cons r _ ih =>
    intro s u k hR
    have := ih _ _ _ (R_skip h r hR)
    rw [g_cons u]
    omega
  | cons_cons r _ ih =>
    intro s u k hR
    obtain ⟨e, hR2⟩ := R_both h r hR
    have := ih _ _ _ hR2
    rw [g_cons u, g_cons s]
    omega
theorem sub_le (h : Up U) {l m : List Int} (t : l.Sublist m) : g U .no l ≤ g U .no m := by
  have := g_sub h t .no .no 0 rfl
  omega
end
end K52

/-! amounts and wear of tables -/
namespace K52b
open KM PM RM RN RC K52
def top : List Int → Int
  | [] => 0
  | n :: ns => ns.foldl max n
theorem fold_max : ∀ (l : List Int) (n t : Int), t < l.foldl max n ↔ t < n ∨ ∃ x ∈ l, t < x
  | [], n, t => by simp
  | a :: l, n, t => by
    rw [List.foldl_cons, fold_max l (max n a) t]
    constructor
    · rintro (h | ⟨x, hx, h⟩)
      · rcases (show t < n ∨ t < a by omega) with h | h
        · exact .inl h
        · exact .inr ⟨a, List.mem_cons_self, h⟩
      · exact .inr ⟨x, List.mem_cons_of_mem _ hx, h⟩
    · rintro (h | ⟨x, hx, h⟩)
      · exact .inl (by omega)
      · rcases List.mem_cons.mp hx with e | hx
        · subst e; exact .inl (by omega)
        · exact .inr ⟨x, hx, h⟩
theorem top_lt (l : List Int) {t : Int} (h : 0 ≤ t) : t < top l ↔ ∃ x ∈ l, t < x := by
  cases l with
  | nil =>
    show t < 0 ↔ _
    constructor
    · intro z; omega
    · rintro ⟨x, hx, _⟩; exact (List.not_mem_nil hx).elim
  | cons n ns =>
    show t < ns.foldl max n ↔ _
    rw [fold_max]
    constructor
    · rintro (z | ⟨x, hx, z⟩)
      · exact ⟨n, List.mem_cons_self, z⟩
      · exact ⟨x, List.mem_cons_of_mem _ hx, z⟩
    · rintro ⟨x, hx, z⟩
      rcases List.mem_cons.mp hx with e | hx
      · subst e; exact .inl z
      · exact .inr ⟨x, hx, z⟩
theorem top_nonneg {l : List Int} (h : ∀ x ∈ l, 0 ≤ x) : 0 ≤ top l := by
  cases l with
  | nil => exact Int.le_refl _
  | cons n ns =>
    have h0 := h n List.mem_cons_self
    apply Classical.byContradiction
    intro z
    have := (fold_max ns n (n - 1)).mpr (.inl (by omega))
    have e : top (n :: ns) = ns.foldl max n := rfl
    omega
abbrev Ent := Int × Int × Int
def Good (T : List Ent) : Prop := ∀ e ∈ T, e.1 < e.2.1 ∧ 0 ≤ e.2.2
def has (lo hi : Int) (e : Ent) : Bool := decide (lo ≤ e.1) && decide (e.2.1 ≤ hi)
def amts (T : List Ent) (lo hi : Int) : List Int := (T.filter (has lo hi)).map (·.2.2)
def amt (T : List Ent) (lo hi : Int) : Int := top (amts T lo hi)
theorem has_iff {lo hi : Int} {e : Ent} : has lo hi e = true ↔ lo ≤ e.1 ∧ e.2.1 ≤ hi := by unfold has; simp
theorem amt_lt (T : List Ent) (lo hi : Int) {t : Int} (h : 0 ≤ t) : t < amt T lo hi ↔ ∃ e ∈ T, (lo ≤ e.1 ∧ e.2.1 ≤ hi) ∧ t < e.2.2 := by
  unfold amt
  rw [top_lt _ h]
  unfold amts
  constructor
  · rintro ⟨x, hx, z⟩
    obtain ⟨e, he, rfl⟩ := List.mem_map.mp hx
    obtain ⟨e1, e2⟩ := List.mem_filter.mp he
    exact ⟨e, e1, has_iff.mp e2, z⟩
  · rintro ⟨e, he, h2, z⟩
    exact ⟨e.2.2, List.mem_map.mpr ⟨e, List.mem_filter.mpr ⟨he, has_iff.mpr h2⟩, rfl⟩, z⟩
theorem amt_nonneg {T : List Ent} (g : Good T) (lo hi : Int) : 0 ≤ amt T lo hi := by
  refine top_nonneg fun x hx => ?_
  obtain ⟨e, he, rfl⟩ := List.mem_map.mp hx
  exact (g e (List.mem_filter.mp he).1).2
theorem same_lt {a b : Int} (h1 : 0 ≤ a) (h2 : 0 ≤ b) (h : ∀ t, 0 ≤ t → (t < a ↔ t < b)) : a = b := by
  apply Classical.byContradiction
  intro z
  rcases (show a < b ∨ b < a by omega) with k | k
  · have := (h a h1).mpr k; omega
  · have := (h b h2).mp k; omega
theorem Good.app {T S : List Ent} (g : Good T) (h : Good S) : Good (T ++ S) := fun e he => (List.mem_append.mp he).elim (g e) (h e)
theorem Good.rev {T : List Ent} (g : Good T) : Good T.reverse := fun e he => g e (List.mem_reverse.mp he)
theorem good_one {e : Ent} (h : e.1 < e.2.1 ∧ 0 ≤ e.2.2) : Good [e] := fun f hf => by rw [List.mem_singleton.mp hf]; exact h
theorem amt_app {T : List Ent} (g : Good T) {e : Ent} (k : e.1 < e.2.1 ∧ 0 ≤ e.2.2) (lo hi : Int) : amt (T ++ [e]) lo hi = if (decide (lo ≤ e.1) && decide (e.2.1 ≤ hi)) = true then (if e.2.2 > amt T lo hi then e.2.2 else amt T lo hi) else amt T lo hi := by
  have n1 := amt_nonneg g lo hi
  have n2 := amt_nonneg (g.app (good_one k)) lo hi
  refine same_lt n2 (by split <;> (try split) <;> omega) fun t ht => ?_
  have f := amt_lt T lo hi ht
  rw [amt_lt _ lo hi ht]
  constructor
  · rintro ⟨x, hx, hh, z⟩
    rcases List.mem_append.mp hx with m | m
    · have := f.mpr ⟨x, m, hh, z⟩
      split <;> (try split) <;> omega
    · rw [List.mem_singleton.mp m] at hh z
      rw [if_pos (by simpa using hh)]
      split <;> omega
  · intro z
    have old : t < amt T lo hi → ∃ x ∈ T ++ [e], (lo ≤ x.1 ∧ x.2.1 ≤ hi) ∧ t < x.2.2 := fun q => by
      obtain ⟨x, m, hh, z⟩ := f.mp q
      exact ⟨x, List.mem_append_left _ m, hh, z⟩
    split at z
    · rename_i hh
      split at z
      · exact ⟨e, List.mem_append_right _ List.mem_cons_self, by simpa using hh, z⟩
      · exact old z
    · exact old z
theorem amt_idle {T : List Ent} (g : Good T) {e : Ent} (k : e.1 < e.2.1 ∧ e.2.2 = 0) (lo hi : Int) : amt (T.reverse ++ T ++ [e]) lo hi = amt T lo hi := by
  refine same_lt (amt_nonneg ((g.rev.app g).app (good_one ⟨k.1, by omega⟩)) lo hi) (amt_nonneg g lo hi) fun t ht => ?_
  rw [amt_lt _ lo hi ht, amt_lt _ lo hi ht]
  constructor
  · rintro ⟨x, hx, hh, z⟩
    rcases List.mem_append.mp hx with m | m
    · rcases List.mem_append.mp m with m | m
      · exact ⟨x, List.mem_reverse.mp m, hh, z⟩
      · exact ⟨x, m, hh, z⟩
    · rw [List.mem_singleton.mp m] at z
      omega
  · rintro ⟨x, m, hh, z⟩
    exact ⟨x, List.mem_append_left _ (List.mem_append_right _ m), hh, z⟩
theorem amt_mono {T : List Ent} (g : Good T) {lo hi lo2 hi2 : Int} (h1 : lo ≤ lo2) (h2 : hi2 ≤ hi) : amt T lo2 hi2 ≤ amt T lo hi := by
  apply Classical.byContradiction
  intro z
  have n := amt_nonneg g lo hi
  obtain ⟨x, m, hh, k⟩ := (amt_lt T lo2 hi2 n).mp (by omega)
  have := (amt_lt T lo hi n).mpr ⟨x, m, by omega, k⟩
  omega
def wear (T : List Ent) (rs : List (Int × Int)) : Int := (rs.map fun r => amt T r.1 r.2).sum
theorem wear_app (T : List Ent) (rs ss : List (Int × Int)) : wear T (rs ++ ss) = wear T rs + wear T ss := by
  unfold wear
  rw [List.map_append, List.sum_append]
def Ut (T : List Ent) (t : Nat) (a b : Int) : Bool := decide ((t : Int) < amt T a b)
theorem up_t {T : List Ent} (g : Good T) (t : Nat) : Up (Ut T t) := by
  constructor
  · intro a b c d h1 h2 h
    have h := of_decide_eq_true h
    have := amt_mono g h1 h2
    exact decide_eq_true (by omega)
  · intro a b h
    have h := of_decide_eq_true h
    obtain ⟨x, m, hh, _⟩ := (amt_lt T a b (Int.natCast_nonneg t)).mp h
    have := (g x m).1
    omega
def cut (T : List Ent) (M : Nat) (rs : List (Int × Int)) : Int := (rs.map fun r => if amt T r.1 r.2 ≤ M then amt T r.1 r.2 else (M : Int)).sum
theorem cut_succ {T : List Ent} (g : Good T) (M : Nat) : ∀ rs : List (Int × Int), cut T (M + 1) rs = cut T M rs + nU (Ut T M) rs
  | [] => rfl
  | r :: rs => by
    have ih := cut_succ g M rs
    rw [nU_cons]
    show (if amt T r.1 r.2 ≤ ((M + 1 : Nat) : Int) then amt T r.1 r.2 else ((M + 1 : Nat) : Int)) + cut T (M + 1) rs = (if amt T r.1 r.2 ≤ (M : Int) then amt T r.1 r.2 else (M : Int)) + cut T M rs + _
    rw [ih]
    have e : Ut T M r.1 r.2 = decide ((M : Int) < amt T r.1 r.2) := rfl
    by_cases h : (M : Int) < amt T r.1 r.2
    · have e2 : b2 (Ut T M r.1 r.2) = 1 := by rw [e, decide_eq_true h]; rfl
      rw [e2, if_neg (by omega : ¬ amt T r.1 r.2 ≤ (M : Int))]
      split <;> omega
    · have e2 : b2 (Ut T M r.1 r.2) = 0 := by rw [e, decide_eq_false h]; rfl
      rw [e2, if_pos (by omega), if_pos (by omega)]
      omega
theorem cut_zero {T : List Ent} (g : Good T) : ∀ rs : List (Int × Int), cut T 0 rs = 0
  | [] => rfl
  | r :: rs => by
    have ih := cut_zero g rs
    have := amt_nonneg g r.1 r.2
    show (if amt T r.1 r.2 ≤ ((0 : Nat) : Int) then amt T r.1 r.2 else ((0 : Nat) : Int)) + cut T 0 rs = 0
    rw [ih]
    split <;> omega
theorem wear_nonneg {T : List Ent} (g : Good T) : ∀ rs : List (Int × Int), 0 ≤ wear T rs
  | [] => Int.le_refl _
  | r :: rs => by
    have ih := wear_nonneg g rs
    have := amt_nonneg g r.1 r.2
    show 0 ≤ amt T r.1 r.2 + wear T rs
    omega
theorem cut_all {T : List Ent} (g : Good T) (M : Nat) : ∀ rs : List (Int × Int), wear T rs ≤ M → cut T M rs = wear T rs
  | [], _ => rfl
  | r :: rs, h => by
    have n1 := wear_nonneg g rs
    have n2 := amt_nonneg g r.1 r.2
    have h2 : amt T r.1 r.2 + wear T rs ≤ M := h
    have ih := cut_all g M rs (by omega)
    show (if amt T r.1 r.2 ≤ (M : Int) then amt T r.1 r.2 else (M : Int)) + cut T M rs = amt T r.1 r.2 + wear T rs
    rw [ih, if_pos (by omega)]
theorem wear_le {T : List Ent} (g : Good T) {rs ss : List (Int × Int)} (h : ∀ U, Up U → nU U rs ≤ nU U ss) : wear T rs ≤ wear T ss := by
  have key : ∀ M, cut T M rs ≤ cut T M ss := by
    intro M
    induction M with
    | zero => rw [cut_zero g, cut_zero g]; exact Int.le_refl _
    | succ M ih =>
      rw [cut_succ g, cut_succ g]
      have := h _ (up_t g M)
      omega
  have n1 := wear_nonneg g rs
  have n2 := wear_nonneg g ss
  have k := key (wear T rs + wear T ss).toNat
  rw [cut_all g _ rs (by omega), cut_all g _ ss (by omega)] at k
  exact k
/-- a load with readings left out wears no more -/
theorem wear_sub {T : List Ent} (g : Good T) {less load : List Int} (t : less.Sublist load) {cs ds cs2 ds2 : List (Int × Int)} {rs rs2 : List Int} {hs hs2 : List (Int × Int)}
    (r : Run (tp load) cs rs) (n : NF rs) (p : ds.Perm cs) (h : hs.Perm (ds ++ ds ++ sw rs)) (r2 : Run (tp less) cs2 rs2) (n2 : NF rs2) (p2 : ds2.Perm cs2) (h2 : hs2.Perm (ds2 ++ ds2 ++ sw rs2)) : wear T hs2 ≤ wear T hs := by
  refine wear_le g fun U up => ?_
  have c1 := count_g up r n
  have c2 := count_g up r2 n2
  have := sub_le up t
  have e1 : nU U hs = 2 * nU U cs + nU U (sw rs) := by
    have q : nU U ds = nU U cs := p.countP_eq _
    have : nU U hs = nU U (ds ++ ds ++ sw rs) := h.countP_eq _
    rw [this]
    unfold nU at *
    rw [List.countP_append, List.countP_append, q]
    omega
  have e2 : nU U hs2 = 2 * nU U cs2 + nU U (sw rs2) := by
    have q : nU U ds2 = nU U cs2 := p2.countP_eq _
    have : nU U hs2 = nU U (ds2 ++ ds2 ++ sw rs2) := h2.countP_eq _
    rw [this]
    unfold nU at *
    rw [List.countP_append, List.countP_append, q]
    omega
  omega
end K52b

namespace KA
open PySem PySem.Spec PyProof.Rows L2
def topS (i : Nat) : Stmt := PySem.Challenge.pw_wearswings_k52_whole_tables_grow.main.body.getD i (.Pass ⟨0, 0, 0, 0⟩)
end KA
namespace KD
open PySem PySem.Spec PyProof.Rows L2 KA
abbrev sFeed : Stmt := topS 19
abbrev sTake : Stmt := topS 20
abbrev sPick : Stmt := topS 21
theorem scFeed : FnScope ["script", "k", "cell", "digits", "state"] ["script", "k"] (defScope sFeed) := ⟨rfl, rfl, rfl, by decide +kernel, rfl, by decide +kernel, by decide +kernel⟩
theorem scTake : FnScope ["feed", "many", "digit"] ["feed", "many"] (defScope sTake) := ⟨rfl, rfl, rfl, by decide +kernel, rfl, by decide +kernel, by decide +kernel⟩
theorem scPick : FnScope ["feed", "some"] ["feed", "some"] (defScope sPick) := ⟨rfl, rfl, rfl, by decide +kernel, rfl, by decide +kernel, by decide +kernel⟩
/-- a feed stands at p -/
def FeedAt (H : Hp) (p : Addr) : Prop := ∃ d st : Int, 0 ≤ d ∧ 0 ≤ st ∧ st < 2305843009213693951 ∧ H p = some (.lst [.int d, .int st])
/-- all that was tracked is as it was, but what stands at f -/
def Ch (f : Addr) (H H' : Hp) : Prop := ∀ b o, b ≠ f → H b = some o → H' b = some o
theorem Ch.refl (f : Addr) (H : Hp) : Ch f H H := fun _ _ _ e => e
theorem Ch.trans {f : Addr} {H H1 H2 : Hp} (a : Ch f H H1) (b : Ch f H1 H2) : Ch f H H2 := fun c o n e => b c o n (a c o n e)
theorem Ch.of_same {f : Addr} {H H' : Hp} (s : Same H H') : Ch f H H' := fun c o _ e => s c o e
theorem Ch.put {f : Addr} {H : Hp} {o : HO} : Ch f H (upd H f o) := fun b x n e => by rw [upd_ne n]; exact e
theorem Ch.new {f p : Addr} {H : Hp} {o : HO} (h : H p = none) : Ch f H (upd H p o) := .of_same (same_new h)
theorem Ch.again {f p : Addr} {H0 H : Hp} {o : HO} (h : H0 p = none) (c : Ch f H0 H) : Ch f H0 (upd H p o) := fun b x n e => by
  rw [upd_ne (ne_of_none e h)]
  exact c b x n e
theorem Ch.free {f p : Addr} {H H' : Hp} (c : Ch f H H') (n : p ≠ f) (h : H' p = none) : H p = none := by
  cases e : H p with
  | none => rfl
  | some o =>
    rw [c p o n e] at h
    cases h
theorem Ch.seq {K : PySem.W.Frag} {f : Addr} {H H' : Hp} {a : Addr} {xs : List V} (c : Ch f H H') (n : a ≠ f) (h : SqL K H a xs) : SqL K H' a xs := by
  rcases h with (h | ⟨o, h⟩) | h
  · exact .inl (.inl (c _ _ n h))
  · exact .inl (.inr ⟨o, c _ _ n h⟩)
  · exact .inr h
/-- what stood ahead of the feed is as it was -/
theorem Ch.old {f : Addr} {H0 H H' : Hp} (c : Ch f H H') (hf : H0 f = none) (s : Same H0 H) : Same H0 H' := fun b o e => c b o (ne_of_none e hf) (s b o e)
theorem FeedAt.ne {H : Hp} {f p : Addr} (h : FeedAt H f) (n : H p = none) : p ≠ f := by
  obtain ⟨d, st, _, _, _, e⟩ := h
  exact fun z => by rw [z, e] at n; cases n
theorem FeedAt.upd {H : Hp} {f p : Addr} {o : HO} (h : FeedAt H f) (n : p ≠ f) : FeedAt (upd H p o) f := by
  obtain ⟨d, st, h1, h2, h3, e⟩ := h
  exact ⟨d, st, h1, h2, h3, by rw [upd_ne n.symm]; exact e⟩
theorem FeedAt.same {H H' : Hp} {f : Addr} (h : FeedAt H f) (s : Same H H') : FeedAt H' f := by
  obtain ⟨d, st, h1, h2, h3, e⟩ := h
  exact ⟨d, st, h1, h2, h3, s _ _ e⟩
section
variable {P : Program} {w : World} {K : PySem.W.Frag} {mg : Str → Option Value} {base : Heap}
def spFeed (K : PySem.W.Frag) : Sp := fun vs H Q _ => ∃ (a : Addr) (ns : List Int) (k : Int), vs = [.ref a, .int k] ∧ SqL K H a (ns.map V.int) ∧ 0 ≤ k ∧ k ≤ 100 ∧
  ∀ H' p, Same H H' → H p = none → FeedAt H' p → Q (.ref p) H'
theorem ok_feed {f : Addr} {fd : FuncData} {k : Nat} (F : Fun K "_law_feed" "_law_feed" sFeed f fd) (ml : mg "len" = none) (mm : mg "max" = none) (ma : mg "abs" = none) : FnOk P w K mg base CX0 (k + 1) f fd ["script", "k"] (spFeed K) := by
  refine F.ok scFeed (fun vs H Q E h => ?_) (fun cdv A outer s H vs Q E hr h => ?_)
  · obtain ⟨a, ns, z, rfl, _⟩ := h
    rfl
  · obtain ⟨a, ns, z, rfl, hS, h0, h1, q⟩ := h
    refine ⟨_, pss_cons (ps_set (i := 2) scFeed.nd rfl (.inl rfl) (pe_ifExp (pt_cmpR op_lt (pv 1) (pe_callB call_len_seq (by rfl) ml PySem.boot_len (pa_cons (pv 0) pa_nil)) (nomark _)) (pe_ix ix_list (pv 0) (pv 1) (fun _ _ => rfl)) (pe_op op_add (pe_op op_mul pe_int (pv 1)) pe_int)))
      (pss_cons (ps_set (i := 3) scFeed.nd rfl (.inl rfl) (pe_callB (call_max2 rfl) (by rfl) mm (by decide +kernel) (pa_cons pe_int (pa_cons (pe_op op_sub (pe_callB call_abs (by rfl) ma (by decide +kernel) (pa_cons (pv 2) pa_nil)) (pe_op op_pow pe_int pe_int)) pa_nil))))
      (pss_cons (ps_set (i := 4) scFeed.nd rfl (.inl rfl) (pe_op op_mod (pe_op op_add (pe_op op_add (pe_op op_mul (pv 2) pe_int) (pe_op op_mul pe_int (pv 1))) pe_int) pe_int))
      (pss_one (ps_ret (pe_lst (pa_cons (pv 3) (pa_cons (pv 4) pa_nil))))))), ?_⟩
    refine ⟨.int z, rfl, .ref a, rfl, a, ns.map V.int, rfl, .inl hS, z, _, rfl, rfl, _, rfl, ite2 (fun e => ?_) (fun e => ?_)⟩
    · have hz : z < ((ns.map V.int).length : Nat) := of_decide_eq_true e
      rw [List.length_map] at hz
      obtain ⟨j, rfl⟩ : ∃ j : Nat, z = (j : Int) := ⟨z.toNat, by omega⟩
      have hj : j < ns.length := by omega
      have gj : (ns.map V.int)[j]? = some (.int ns[j]) := by rw [List.getElem?_map, List.getElem?_eq_getElem hj]; rfl
      refine ⟨.ref a, rfl, .int j, rfl, a, _, _, _, rfl, rfl, hS, atI_nat gj, ?_⟩
      refine ⟨_, rfl, _, rfl, 10, 18, rfl, rfl, ⟨by decide, by decide, by decide⟩, _, _, rfl, rfl, 0, _, rfl, ?_⟩
      refine ⟨_, rfl, _, _, rfl, rfl, .inr ⟨by decide, by decide⟩, .int _, rfl, 7919, _, rfl, rfl, .inl ⟨by decide, by decide⟩, _, _, rfl, rfl, _, _, rfl, rfl, _, _, rfl, rfl, by show (0 : Int) < 2305843009213693951; decide, ?_⟩
      refine ⟨_, rfl, _, rfl, by show 2 ≤ sizeLine; decide, fun p np => q _ p (same_new np) np ⟨_, _, ?_, Int.emod_nonneg _ (by decide), Int.emod_lt_of_pos _ (by decide), upd_same⟩⟩
      split <;> omega
    · refine ⟨.int z, rfl, 83, z, rfl, rfl, .inl ⟨by decide, by decide⟩, _, _, rfl, rfl, ?_⟩
      refine ⟨_, rfl, _, rfl, 10, 18, rfl, rfl, ⟨by decide, by decide, by decide⟩, _, _, rfl, rfl, 0, _, rfl, ?_⟩
      refine ⟨_, rfl, _, _, rfl, rfl, .inr ⟨by decide, by decide⟩, .int _, rfl, 7919, _, rfl, rfl, .inl ⟨by decide, by decide⟩, _, _, rfl, rfl, _, _, rfl, rfl, _, _, rfl, rfl, by show (0 : Int) < 2305843009213693951; decide, ?_⟩
      refine ⟨_, rfl, _, rfl, by show 2 ≤ sizeLine; decide, fun p np => q _ p (same_new np) np ⟨_, _, ?_, Int.emod_nonneg _ (by decide), Int.emod_lt_of_pos _ (by decide), upd_same⟩⟩
      split <;> omega
def spTake : Sp := fun vs H Q _ => ∃ (f : Addr) (m : Int), vs = [.ref f, .int m] ∧ 0 < m ∧ m < 2 ^ 64 ∧ FeedAt H f ∧ ∀ H' r, Ch f H H' → FeedAt H' f → 0 ≤ r → r < m → Q (.int r) H'
theorem ok_take {f : Addr} {fd : FuncData} {k : Nat} (F : Fun K "_law_take" "_law_take" sTake f fd) : FnOk P w K mg base CX0 (k + 1) f fd ["feed", "many"] spTake := by
  refine F.ok scTake (fun vs H Q E h => ?_) (fun cdv A outer s H vs Q E hr h => ?_)
  · obtain ⟨a, m, rfl, _⟩ := h
    rfl
  · obtain ⟨f, m, rfl, m0, m1, ⟨d, st, d0, t0, t1, hf⟩, q⟩ := h
    refine ⟨_, pss_cons (ps_if (pt_cmpR op_gt (pe_ix ix_list (pv 0) pe_int (fun _ _ => rfl)) pe_int (nomark _))
        (pss_cons (ps_set (i := 2) scTake.nd rfl (.inl rfl) (pe_op op_mod (pe_ix ix_list (pv 0) pe_int (fun _ _ => rfl)) (pv 1)))
          (pss_cons (ps_asg (pe_op op_fdivW (pe_ix ix_list (pv 0) pe_int (fun _ _ => rfl)) (pv 1)) (pg_sub (pv 0) pe_int set_list)) (pss_one (ps_ret (pv 2))))) pss_nil)
      (pss_cons (ps_asg (pe_op op_mod (pe_op op_add (pe_op op_mul (pe_ix ix_list (pv 0) pe_int (fun _ _ => rfl)) pe_int) pe_int) pe_int) (pg_sub (pv 0) pe_int set_list))
      (pss_one (ps_ret (pe_op op_mod (pe_op op_fdiv (pe_ix ix_list (pv 0) pe_int (fun _ _ => rfl)) pe_int) (pv 1))))), ?_⟩
    have a0 : atI [V.int d, V.int st] 0 = some (.int d) := rfl
    have a1 : atI [V.int d, V.int st] 1 = some (.int st) := rfl
    refine ⟨.ref f, rfl, f, _, 0, .int d, rfl, rfl, SqL.of hf, a0, d, 0, rfl, rfl, _, rfl, ite2 (fun e => ?_) (fun e => ?_)⟩
    · have hd : d > 0 := of_decide_eq_true e
      refine ⟨.ref f, rfl, f, _, 0, .int d, rfl, rfl, SqL.of hf, a0, .int m, rfl, d, m, rfl, rfl, m0, ?_⟩
      refine ⟨.ref f, rfl, f, _, 0, .int d, rfl, rfl, SqL.of hf, a0, .int m, rfl, d, m, rfl, rfl, wide_div (b := 64) m0 (by omega) (by decide) (by decide), ?_⟩
      refine ⟨.ref f, rfl, f, _, 0, 0, rfl, rfl, hf, rfl, .int (d % m), rfl, ?_⟩
      refine q _ _ Ch.put ⟨d / m, st, Int.ediv_nonneg d0 (by omega), t0, t1, upd_same⟩ (Int.emod_nonneg _ (by omega)) (Int.emod_lt_of_pos _ m0)
    · refine ⟨.ref f, rfl, f, _, 1, .int st, rfl, rfl, SqL.of hf, a1, st, 6364136223846793005, rfl, rfl, .inr ⟨by decide, by decide⟩, _, _, rfl, rfl, _, _, rfl, rfl, by show (0 : Int) < 2305843009213693951; decide, ?_⟩
      refine ⟨.ref f, rfl, f, _, 1, 1, rfl, rfl, hf, rfl, ?_⟩
      refine ⟨.ref f, rfl, f, _, 1, _, rfl, rfl, SqL.of upd_same, rfl, _, 65536, rfl, rfl, ⟨by decide, by decide⟩, .int m, rfl, _, m, rfl, rfl, m0, ?_⟩
      exact q _ _ Ch.put ⟨d, _, d0, Int.emod_nonneg _ (by decide), Int.emod_lt_of_pos _ (by decide), upd_same⟩ (Int.emod_nonneg _ (by omega)) (Int.emod_lt_of_pos _ m0)
def spPick (K : PySem.W.Frag) : Sp := fun vs H Q _ => ∃ (f c : Addr) (xs : List V), vs = [.ref f, .ref c] ∧ c ≠ f ∧ SqL K H c xs ∧ 0 < xs.length ∧ xs.length ≤ 1000 ∧ FeedAt H f ∧
  ∀ H' (j : Nat) v, xs[j]? = some v → Ch f H H' → FeedAt H' f → Q v H'
theorem ok_pick {f fT : Addr} {fd fdT : FuncData} {k : Nat} (F : Fun K "_law_pick" "_law_pick" sPick f fd) (FT : Fun K "_law_take" "_law_take" sTake fT fdT) (gT : mg "_law_take" = some (.ref fT)) (bT : Binds K fdT ["feed", "many"] []) (ml : mg "len" = none) :
    FnOk P w K mg base CX0 (k + 2) f fd ["feed", "some"] (spPick K) := by
  have GT : FnOk P w K mg base CX0 (k + 1) fT fdT ["feed", "many"] spTake := ok_take FT
  refine F.ok scPick (fun vs H Q E h => ?_) (fun cdv A outer s H vs Q E hr h => ?_)
  · obtain ⟨a, m, xs, rfl, _⟩ := h
    rfl
  · obtain ⟨f, c, xs, rfl, ncf, hS, l0, l1, hf, q⟩ := h
    refine ⟨_, pss_one (ps_ret (pe_ix ix_list (pv 1) (pe_call GT hr (by rfl) gT FT.kp bT .nil pass0 (pa_cons (pv 0) (pa_cons (pe_callB call_len_seq (by rfl) ml PySem.boot_len (pa_cons (pv 1) pa_nil)) pa_nil))) (fun _ _ => rfl))), ?_⟩
    refine ⟨.ref c, rfl, .ref f, rfl, .ref c, rfl, c, xs, rfl, .inl hS, f, _, rfl, by omega, by omega, hf, fun H' r ch fe r0 r1 => ?_⟩
    obtain ⟨j, rfl⟩ : ∃ j : Nat, r = (j : Int) := ⟨r.toNat, by omega⟩
    have hj : j < xs.length := by omega
    exact ⟨c, xs, _, xs[j], rfl, rfl, ch.seq ncf hS, atI_nat (List.getElem?_eq_getElem hj), q H' j _ (List.getElem?_eq_getElem hj) ch fe⟩
end
end KD
namespace KL
open PySem PySem.Spec PyProof.Rows L2 KA KD
abbrev sLoad : Stmt := topS 22
theorem scLoad : FnScope ["feed", "most", "size", "way", "few", "turn", "middle", "step", "found"] ["feed", "most"] (defScope sLoad) := ⟨rfl, rfl, rfl, by decide +kernel, rfl, by decide +kernel, by decide +kernel⟩
theorem small100 {n : Nat} (h : n ≤ 100) : n < sizeLine := Nat.lt_of_le_of_lt h (by decide)
/-- a list of i small ints stands at D, the rest is as it was -/
def Grown (f D : Addr) (H0 : Hp) (i : Nat) (H : Hp) : Prop := Ch f H0 H ∧ FeedAt H f ∧ ∃ ns : List Int, ns.length = i ∧ (∀ n ∈ ns, n.natAbs < 2 ^ 32) ∧ H D = some (.lst (ns.map V.int))
theorem Grown.start {f D : Addr} {H0 H : Hp} (c : Ch f H0 H) (fe : FeedAt H f) (n0 : H0 D = none) (nf : D ≠ f) : Grown f D H0 0 (upd H D (.lst [])) :=
  ⟨Ch.again n0 c, fe.upd nf, [], rfl, fun _ z => (List.not_mem_nil z).elim, upd_same⟩
theorem Grown.turn {f D : Addr} {H0 H : Hp} {i : Nat} (g : Grown f D H0 i H) (n0 : H0 D = none) (nf : D ≠ f) (hi : i ≤ 100) {H1 : Hp} (c : Ch f H H1) (fe : FeedAt H1 f) {r : Int} (hr : r.natAbs < 2 ^ 32) :
    ∃ acc, H1 D = some (.lst acc) ∧ acc.length < sizeLine ∧ Grown f D H0 (i + 1) (upd H1 D (.lst (acc ++ [.int r]))) := by
  obtain ⟨c0, _, ns, hl, hb, e⟩ := g
  refine ⟨ns.map V.int, c _ _ nf e, by rw [List.length_map]; exact small100 (by omega), Ch.again n0 (c0.trans c), fe.upd nf, ns ++ [r], by rw [List.length_append, List.length_singleton, hl], fun n hn => ?_, ?_⟩
  · rcases List.mem_append.mp hn with z | z
    · exact hb n z
    · rw [List.mem_singleton.mp z]; exact hr
  · rw [upd_same, List.map_append]
    rfl
theorem four {a b c d : Int} {j : Nat} {v : V} (h : [V.int a, V.int b, V.int c, V.int d][j]? = some v) : v = .int a ∨ v = .int b ∨ v = .int c ∨ v = .int d := by
  match j, h with
  | 0, h => exact .inl (Option.some.inj h).symm
  | 1, h => exact .inr (.inl (Option.some.inj h).symm)
  | 2, h => exact .inr (.inr (.inl (Option.some.inj h).symm))
  | 3, h => exact .inr (.inr (.inr (Option.some.inj h).symm))
  | n + 4, h => simp at h
theorem three {a b c : Int} {j : Nat} {v : V} (h : [V.int a, V.int b, V.int c][j]? = some v) : v = .int a ∨ v = .int b ∨ v = .int c := by
  match j, h with
  | 0, h => exact .inl (Option.some.inj h).symm
  | 1, h => exact .inr (.inl (Option.some.inj h).symm)
  | 2, h => exact .inr (.inr (Option.some.inj h).symm)
  | n + 3, h => simp at h
section
variable {P : Program} {w : World} {K : PySem.W.Frag} {mg : Str → Option Value} {base : Heap}
def spLoad : Sp := fun vs H Q _ => ∃ (f : Addr) (most : Int), vs = [.ref f, .int most] ∧ 0 ≤ most ∧ most ≤ 99 ∧ FeedAt H f ∧
  ∀ H' p (ns : List Int), Ch f H H' → FeedAt H' f → H p = none → H' p = some (.lst (ns.map V.int)) → (ns.length : Int) ≤ most → (∀ n ∈ ns, n.natAbs < 2 ^ 32) → Q (.ref p) H'
theorem ok_load {f fT fP : Addr} {fd fdT fdP : FuncData} {k : Nat} (F : Fun K "_law_load" "_law_load" sLoad f fd) (FT : Fun K "_law_take" "_law_take" sTake fT fdT) (gT : mg "_law_take" = some (.ref fT)) (bT : Binds K fdT ["feed", "many"] [])
    (FP : Fun K "_law_pick" "_law_pick" sPick fP fdP) (gP : mg "_law_pick" = some (.ref fP)) (bP : Binds K fdP ["feed", "some"] []) (ml : mg "len" = none) (mr : mg "range" = none) (mm : mg "min" = none) :
    FnOk P w K mg base CX0 (k + 3) f fd ["feed", "most"] spLoad := by
  have GT : FnOk P w K mg base CX0 (k + 1) fT fdT ["feed", "many"] spTake := ok_take FT
  have GP : FnOk P w K mg base CX0 (k + 2) fP fdP ["feed", "some"] (spPick K) := ok_pick FP FT gT bT ml
  refine F.ok scLoad (fun vs H Q E h => ?_) (fun cdv A outer s H vs Q E hr h => ?_)
  · obtain ⟨a, m, rfl, _⟩ := h
    rfl
  · obtain ⟨f, most, rfl, m0, m1, hf, q⟩ := h
    have hrT := hr.mono (Nat.le_succ (k + 1))
    refine ⟨_, pss_cons (ps_set (i := 2) scLoad.nd rfl (.inl rfl) (pe_call GT hrT (by rfl) gT FT.kp bT .nil pass0 (pa_cons (pv 0) (pa_cons (pe_op op_add (pv 1) pe_int) pa_nil))))
      (pss_cons (ps_set (i := 3) scLoad.nd rfl (.inl rfl) (pe_call GT hrT (by rfl) gT FT.kp bT .nil pass0 (pa_cons (pv 0) (pa_cons pe_int pa_nil))))
      (pss_cons (ps_if (pt_cmpR op_lt (pv 3) pe_int (nomark _))
        (pss_cons (ps_set (i := 4) scLoad.nd rfl (.inr rfl) (pe_call GP hr (by rfl) gP FP.kp bP .nil pass0 (pa_cons (pv 0) (pa_cons (pe_lst (pa_cons pe_int (pa_cons pe_int (pa_cons pe_int (pa_cons pe_int pa_nil))))) pa_nil))))
          (pss_one (ps_ret (pe_lc (own := [("turn", 5)]) (g := gName 5) rfl scLoad.nd (pi_range1 rfl mr (pa_cons (pv 2) pa_nil)) (blkOk_by (own := [("turn", 5)]) (N := ["feed", "most", "size", "way", "few", "turn", "middle", "step", "found"]) (sc := defScope sLoad) (by decide +kernel))
            (fun _ _ _ _ _ => pg_name (i := 5) scLoad.nd rfl (Or.inl rfl) (Or.inr rfl)) (fun _ _ _ _ _ => pts_nil)
            (fun _ _ _ _ _ => pe_call GT hrT (by rfl) gT FT.kp bT .nil pass0 (pa_cons (pv 0) (pa_cons (pv 4) pa_nil))))))) pss_nil)
      (pss_cons (ps_if (pt_cmpR op_eq (pv 3) pe_int (nomark _))
          (pss_one (ps_ret (pe_lc (own := [("turn", 5)]) (g := gName 5) rfl scLoad.nd (pi_range1 rfl mr (pa_cons (pv 2) pa_nil)) (blkOk_by (own := [("turn", 5)]) (N := ["feed", "most", "size", "way", "few", "turn", "middle", "step", "found"]) (sc := defScope sLoad) (by decide +kernel))
            (fun _ _ _ _ _ => pg_name (i := 5) scLoad.nd rfl (Or.inl rfl) (Or.inr rfl)) (fun _ _ _ _ _ => pts_nil)
            (fun _ _ _ _ _ => pe_op op_sub (pe_call GT hrT (by rfl) gT FT.kp bT .nil pass0 (pa_cons (pv 0) (pa_cons (pe_op op_add (pe_op op_mul pe_int (pe_op op_pow pe_int pe_int)) pe_int) pa_nil))) (pe_op op_pow pe_int pe_int))))) pss_nil)
      (pss_cons (ps_if (pt_cmpR op_eq (pv 3) pe_int (nomark _))
          (pss_cons (ps_par3 (i := 6) (j := 7) (l := 8) (by rfl) scLoad.nd rfl rfl rfl (by decide) (by decide) (by decide) rfl rfl rfl
              (pa_cons (pe_call GT hrT (by rfl) gT FT.kp bT .nil pass0 (pa_cons (pv 0) (pa_cons (pe_op op_add (pv 2) pe_int) pa_nil)))
                (pa_cons (pe_call GP hr (by rfl) gP FP.kp bP .nil pass0 (pa_cons (pv 0) (pa_cons (pe_lst (pa_cons pe_int (pa_cons pe_int (pa_cons (pe_un un_neg pe_int) pa_nil)))) pa_nil)))
                  (pa_cons (pe_lst pa_nil) pa_nil))) (by rfl))
          (pss_cons (ps_for PassesOwn.never rfl (pi_range1 rfl mr (pa_cons (pv 2) pa_nil)) (pg_name (i := 5) scLoad.nd rfl (.inl rfl))
              (pss_cons (ps_expr (pe_bm PySem.F.plainAttrs_list PySem.F.slot_list_append PySem.F.type_list_append mt_append (pv 8) (pa_cons (pe_op op_mul (pv 7) (pe_callB (call_min2 rfl) (by rfl) mm (by decide +kernel) (pa_cons (pv 5) (pa_cons (pv 6) pa_nil)))) pa_nil)))
                (pss_one (ps_set (i := 7) scLoad.nd rfl (.inl rfl) (pe_op op_sub pe_int (pv 7))))))
            (pss_one (ps_ret (pv 8))))) pss_nil)
      (pss_cons (ps_if (pt_cmpR op_eq (pv 3) pe_int (nomark _))
          (pss_one (ps_ret (pe_lc (own := [("turn", 5)]) (g := gName 5) rfl scLoad.nd (pi_range1 rfl mr (pa_cons (pv 2) pa_nil)) (blkOk_by (own := [("turn", 5)]) (N := ["feed", "most", "size", "way", "few", "turn", "middle", "step", "found"]) (sc := defScope sLoad) (by decide +kernel))
            (fun _ _ _ _ _ => pg_name (i := 5) scLoad.nd rfl (Or.inl rfl) (Or.inr rfl)) (fun _ _ _ _ _ => pts_nil)
            (fun _ _ _ _ _ => pe_op op_sub (pe_op op_fdiv (pv 5) pe_int) (pe_call GT hrT (by rfl) gT FT.kp bT .nil pass0 (pa_cons (pv 0) (pa_cons pe_int pa_nil))))))) pss_nil)
      (pss_one (ps_ret (pe_lc (own := [("turn", 5)]) (g := gName 5) rfl scLoad.nd (pi_range1 rfl mr (pa_cons (pv 2) pa_nil)) (blkOk_by (own := [("turn", 5)]) (N := ["feed", "most", "size", "way", "few", "turn", "middle", "step", "found"]) (sc := defScope sLoad) (by decide +kernel))
            (fun _ _ _ _ _ => pg_name (i := 5) scLoad.nd rfl (Or.inl rfl) (Or.inr rfl)) (fun _ _ _ _ _ => pts_nil)
            (fun _ _ _ _ _ => pe_call GP hr (by rfl) gP FP.kp bP .nil pass0 (pa_cons (pv 0) (pa_cons (pe_lst (pa_cons pe_int (pa_cons (pe_un un_neg pe_int) (pa_cons pe_int (pa_cons pe_int pa_nil))))) pa_nil))))))))))), ?_⟩
    -- size
    refine ⟨.ref f, rfl, .int most, rfl, most, 1, rfl, rfl, f, _, rfl, by omega, by omega, hf, fun H1 sz c1 f1 z0 z1 => ?_⟩
    -- way
    refine ⟨.ref f, rfl, f, _, rfl, by decide, by decide, f1, fun H2 way c2 f2 w0 w1 => ?_⟩
    have cc := c1.trans c2
    obtain ⟨n, rfl⟩ : ∃ n : Nat, sz = (n : Int) := ⟨sz.toNat, by omega⟩
    have hn : n ≤ 100 := by omega
    have b62 : -(2 ^ 62) ≤ ((n : Nat) : Int) ∧ ((n : Nat) : Int) < 2 ^ 62 := ⟨by omega, by omega⟩
    have fin : ∀ (D : Addr) (H' : Hp), H D = none → Grown f D H n H' → Q (.ref D) H' := fun D H' n0 g => by
      obtain ⟨c, fe, ns, hl, hb, e⟩ := g
      exact q H' D ns c fe n0 e (by omega) hb
    refine ⟨.int way, rfl, way, 3, rfl, rfl, _, rfl, ite2 (fun _ => ?_) (fun _ => ?_)⟩
    · -- few values
      refine ⟨.ref f, rfl, by decide, fun l nl => ?_⟩
      have nlf := f2.ne nl
      refine ⟨f, l, _, rfl, nlf, SqL.of upd_same, by decide, by decide, f2.upd nlf, fun H3 j v hj c3 f3 => ?_⟩
      have c03 : Ch f H H3 := (Ch.again (cc.free nlf nl) cc).trans c3
      have hv : ∃ few : Int, v = .int few ∧ 0 < few ∧ few < 10 := by
        rcases four hj with e | e | e | e <;> exact ⟨_, e, by decide, by decide⟩
      obtain ⟨few, rfl, p0, p1⟩ := hv
      refine ⟨.int (n : Int), rfl, (n : Int), rfl, b62.1, b62.2, fun D nD => ?_⟩
      have nDf := f3.ne nD
      have n0 := c03.free nDf nD
      refine lc_range (lo := 0) (n := ((n : Int)).toNat) (fun i H' => Grown f D H i H') (Grown.start c03 f3 n0 nDf) (fun i H' hi g => ?_) (fun H' g => fin D H' n0 g)
      refine ⟨rfl, ?_⟩
      refine iteT (B := True) ?_
      refine ⟨.ref f, rfl, .int few, rfl, f, few, rfl, p0, by omega, g.2.1, fun H4 r c4 f4 r0 r1 => g.turn n0 nDf (by omega) c4 f4 (by omega)⟩
    refine ⟨.int way, rfl, rfl, _, rfl, ite2 (fun _ => ?_) (fun _ => ?_)⟩
    · -- great values
      refine ⟨.int (n : Int), rfl, (n : Int), rfl, b62.1, b62.2, fun D nD => ?_⟩
      have nDf := f2.ne nD
      have n0 := cc.free nDf nD
      refine lc_range (lo := 0) (n := ((n : Int)).toNat) (fun i H' => Grown f D H i H') (Grown.start cc f2 n0 nDf) (fun i H' hi g => ?_) (fun H' g => fin D H' n0 g)
      refine ⟨rfl, ?_⟩
      refine iteT (B := True) ?_
      refine ⟨.ref f, rfl, 10, 9, rfl, rfl, ⟨by decide, by decide, by decide⟩, 2, _, rfl, rfl, .inl ⟨by decide, by decide⟩, _, 1, rfl, rfl, f, _, rfl, by decide, by decide, g.2.1, fun H4 r c4 f4 r0 r1 => ?_⟩
      refine ⟨10, 9, rfl, rfl, ⟨by decide, by decide, by decide⟩, r, _, rfl, rfl, g.turn n0 nDf (by omega) c4 f4 ?_⟩
      have e9 : (10 : Int) ^ (9 : Int).toNat = 1000000000 := by decide
      rw [e9] at r1 ⊢
      omega
    refine ⟨.int way, rfl, rfl, _, rfl, ite2 (fun _ => ?_) (fun _ => ?_)⟩
    · -- wider and narrower swings
      refine ⟨.ref f, rfl, .int (n : Int), rfl, (n : Int), 1, rfl, rfl, f, _, rfl, by omega, by omega, f2, fun H3 mid c3 f3 m0 m1 => ?_⟩
      have c03 := cc.trans c3
      refine ⟨.ref f, rfl, 1, rfl, by decide, fun l nl => ?_⟩
      have nlf := f3.ne nl
      refine ⟨f, l, _, rfl, nlf, SqL.of upd_same, by decide, by decide, f3.upd nlf, fun H4 j v hj c4 f4 => ?_⟩
      have c04 : Ch f H H4 := (Ch.again (c03.free nlf nl) c03).trans c4
      have hv : ∃ st : Int, v = .int st ∧ -2 ≤ st ∧ st ≤ 2 := by
        rcases three hj with e | e | e <;> exact ⟨_, e, by decide, by decide⟩
      obtain ⟨st, rfl, p0, p1⟩ := hv
      refine ⟨by decide, fun D nD => ?_⟩
      have nDf := f4.ne nD
      have n0 := c04.free nDf nD
      refine ⟨_, _, _, rfl, .int (n : Int), rfl, (n : Int), rfl, b62.1, b62.2, for_range (lo := 0) (n := ((n : Int)).toNat)
        (fun i σ H' => Grown f D H i H' ∧ ∃ (st : Int) (r5 : Option V), -2 ≤ st ∧ st ≤ 2 ∧ σ = [some (.ref f), some (.int most), some (.int (n : Int)), some (.int way), none, r5, some (.int mid), some (.int st), some (.ref D)]) ?_ ?_ ?_⟩
      · exact ⟨Grown.start c04 f4 n0 nDf, st, none, p0, p1, rfl⟩
      · rintro i σ H' hi ⟨g, st, r5, p0, p1, rfl⟩
        have hi2 : i < 101 := by omega
        obtain ⟨acc, e1, e2, e3⟩ := g.turn n0 nDf (by omega) (Ch.refl f H') g.2.1 (r := st * (if mid < (0 + (i : Int)) then mid else (0 + (i : Int)))) (by
          have hx : 0 ≤ (if mid < (0 + (i : Int)) then mid else (0 + (i : Int))) ∧ (if mid < (0 + (i : Int)) then mid else (0 + (i : Int))) ≤ 200 := by split <;> omega
          generalize (if mid < (0 + (i : Int)) then mid else (0 + (i : Int))) = x at hx
          have hst : st = -2 ∨ st = -1 ∨ st = 0 ∨ st = 1 ∨ st = 2 := by omega
          rcases hst with e | e | e | e | e <;> subst e <;> omega)
        refine ⟨.ref D, rfl, .inl ⟨rfl, _, SqL.of e1⟩, .int st, rfl, .int (0 + (i : Int)), rfl, .int mid, rfl, 0 + (i : Int), mid, rfl, st, _, rfl, rfl, .inl ⟨by omega, by omega⟩, D, acc, _, rfl, rfl, e1, e2, ?_⟩
        exact ⟨.int st, rfl, 0, st, rfl, rfl, e3, 0 - st, _, by omega, by omega, rfl⟩
      · rintro σ H' ⟨g, st, r5, _, _, rfl⟩
        exact ⟨.ref D, rfl, fin D H' n0 g⟩
    refine ⟨.int way, rfl, rfl, _, rfl, ite2 (fun _ => ?_) (fun _ => ?_)⟩
    · -- a climb
      refine ⟨.int (n : Int), rfl, (n : Int), rfl, b62.1, b62.2, fun D nD => ?_⟩
      have nDf := f2.ne nD
      have n0 := cc.free nDf nD
      refine lc_range (lo := 0) (n := ((n : Int)).toNat) (fun i H' => Grown f D H i H') (Grown.start cc f2 n0 nDf) (fun i H' hi g => ?_) (fun H' g => fin D H' n0 g)
      refine ⟨rfl, ?_⟩
      refine iteT (B := True) ?_
      refine ⟨.int (0 + (i : Int)), rfl, 0 + (i : Int), 2, rfl, rfl, ⟨by decide, by decide⟩, .ref f, rfl, f, _, rfl, by decide, by decide, g.2.1, fun H4 r c4 f4 r0 r1 => ?_⟩
      exact ⟨_, r, rfl, rfl, g.turn n0 nDf (by omega) c4 f4 (by omega)⟩
    · refine ⟨.int (n : Int), rfl, (n : Int), rfl, b62.1, b62.2, fun D nD => ?_⟩
      have nDf := f2.ne nD
      have n0 := cc.free nDf nD
      refine lc_range (lo := 0) (n := ((n : Int)).toNat) (fun i H' => Grown f D H i H') (Grown.start cc f2 n0 nDf) (fun i H' hi g => ?_) (fun H' g => fin D H' n0 g)
      refine ⟨rfl, ?_⟩
      refine iteT (B := True) ?_
      refine ⟨.ref f, rfl, 7, rfl, by decide, fun l nl => ?_⟩
      have nlf := g.2.1.ne nl
      refine ⟨f, l, _, rfl, nlf, SqL.of upd_same, by decide, by decide, g.2.1.upd nlf, fun H4 j v hj c4 f4 => ?_⟩
      have hv : ∃ r : Int, v = .int r ∧ r.natAbs < 2 ^ 32 := by
        rcases four hj with e | e | e | e <;> exact ⟨_, e, by decide⟩
      obtain ⟨r, rfl, hr2⟩ := hv
      exact g.turn n0 nDf (by omega) ((Ch.new nl).trans c4) f4 hr2
end
end KL

/-! the program's turning points and swings -/
namespace PA
open PySem PySem.Spec PyProof.Rows L2 KA PH PM
abbrev sCont : Stmt := topS 4
abbrev sRng : Stmt := topS 5
abbrev sTP : Stmt := topS 6
abbrev sBtw : Stmt := topS 8
abbrev sLO : Stmt := topS 7
abbrev sSw : Stmt := topS 9
theorem scCont : FnScope ["outer", "inner"] ["outer", "inner"] (defScope sCont) := ⟨rfl, rfl, rfl, by decide +kernel, rfl, by decide +kernel, by decide +kernel⟩
theorem scRng : FnScope ["one", "other"] ["one", "other"] (defScope sRng) := ⟨rfl, rfl, rfl, by decide +kernel, rfl, by decide +kernel, by decide +kernel⟩
theorem scTP : FnScope ["load", "points", "reading"] ["load"] (defScope sTP) := ⟨rfl, rfl, rfl, by decide +kernel, rfl, by decide +kernel, by decide +kernel⟩
theorem scLO : FnScope ["points", "reading", "last"] ["points", "reading"] (defScope sLO) := ⟨rfl, rfl, rfl, by decide +kernel, rfl, by decide +kernel, by decide +kernel⟩
theorem scBtw : FnScope ["reading", "before", "after"] ["reading", "before", "after"] (defScope sBtw) := ⟨rfl, rfl, rfl, by decide +kernel, rfl, by decide +kernel, by decide +kernel⟩
theorem scSw : FnScope ["load", "points", "one", "other"] ["load"] (defScope sSw) := ⟨rfl, rfl, rfl, by decide +kernel, rfl, by decide +kernel, by decide +kernel⟩
section
variable {P : Program} {w : World} {K : PySem.W.Frag} {mg : Str → Option Value} {base : Heap}
def spCont (K : PySem.W.Frag) : Sp := fun vs H Q _ => ∃ (p q : Addr) (a b c d : Int), vs = [.ref p, .ref q] ∧ SqT K H p [.int a, .int b] ∧ SqT K H q [.int c, .int d] ∧ Q (.bl (decide (a ≤ c) && decide (d ≤ b))) H
theorem ok_Cont {f : Addr} {fd : FuncData} {k : Nat} (F : Fun K "contains" "contains" sCont f fd) : FnOk P w K mg base CX0 (k + 1) f fd ["outer", "inner"] (spCont K) := by
  refine F.ok scCont (fun vs H Q E h => ?_) (fun cdv A outer s H vs Q E hr h => ?_)
  · obtain ⟨p, q, a, b, c, d, rfl, _⟩ := h
    rfl
  · obtain ⟨p, q, a, b, c, d, rfl, h1, h2, hq⟩ := h
    refine ⟨_, pss_one (ps_ret (pe_and (pe_cmpR op_le (pe_ix ix_tup (pv 0) pe_int (fun _ _ => rfl)) (pe_ix ix_tup (pv 1) pe_int (fun _ _ => rfl)) (nomark _)) (pe_one (pe_cmpR op_le (pe_ix ix_tup (pv 1) pe_int (fun _ _ => rfl)) (pe_ix ix_tup (pv 0) pe_int (fun _ _ => rfl)) (nomark _))))), ?_⟩
    refine ⟨.ref p, rfl, p, _, 0, .int a, rfl, rfl, h1, rfl, .ref q, rfl, q, _, 0, .int c, rfl, rfl, h2, rfl, a, c, rfl, rfl, _, rfl, ?_⟩
    by_cases e : a ≤ c
    · rw [decide_eq_true e] at hq ⊢
      exact iteT ⟨.ref q, rfl, q, _, 1, .int d, rfl, rfl, h2, rfl, .ref p, rfl, p, _, 1, .int b, rfl, rfl, h1, rfl, d, b, rfl, rfl, hq⟩
    · rw [decide_eq_false e] at hq ⊢
      exact iteF hq
def spRng : Sp := fun vs H Q _ => ∃ (a b : Int), vs = [.int a, .int b] ∧ ∀ p, H p = none → Q (.ref p) (upd H p (.tup [.int (rg a b).1, .int (rg a b).2]))
theorem ok_Rng {f : Addr} {fd : FuncData} {k : Nat} (F : Fun K "range_of" "range_of" sRng f fd) (mn : mg "min" = none) (mx : mg "max" = none) : FnOk P w K mg base CX0 (k + 1) f fd ["one", "other"] spRng := by
  refine F.ok scRng (fun vs H Q E h => ?_) (fun cdv A outer s H vs Q E hr h => ?_)
  · obtain ⟨a, b, rfl, _⟩ := h
    rfl
  · obtain ⟨a, b, rfl, hq⟩ := h
    refine ⟨_, pss_one (ps_ret (pe_tup (pa_cons (pe_callB (call_min2 rfl) (by rfl) mn (by decide +kernel) (pa_cons (pv 0) (pa_cons (pv 1) pa_nil))) (pa_cons (pe_callB (call_max2 rfl) (by rfl) mx (by decide +kernel) (pa_cons (pv 0) (pa_cons (pv 1) pa_nil))) pa_nil)))), ?_⟩
    exact ⟨.int a, rfl, .int b, rfl, a, b, rfl, .int a, rfl, .int b, rfl, a, b, rfl, by show 2 ≤ sizeLine; decide, fun p np => hq p np⟩
def spBtw : Sp := fun vs H Q _ => ∃ (r b a : Int), vs = [.int r, .int b, .int a] ∧ Q (.bl (decide (Btw r b a))) H
theorem ok_btw {f : Addr} {fd : FuncData} {k : Nat} (F : Fun K "_lies_between" "_lies_between" sBtw f fd) : FnOk P w K mg base CX0 (k + 1) f fd ["reading", "before", "after"] spBtw := by
  refine F.ok scBtw (fun vs H Q E h => ?_) (fun cdv A outer s H vs Q E hr h => ?_)
  · obtain ⟨r, b, a, rfl, _⟩ := h
    rfl
  · obtain ⟨r, b, a, rfl, hq⟩ := h
    refine ⟨_, pss_one (ps_ret (pe_or (pe_chain op_lt op_lt (pv 1) (pv 0) (pv 2)) (pe_one (pe_chain op_lt op_lt (pv 2) (pv 0) (pv 1))))), ?_⟩
    refine ⟨.int b, rfl, .int r, rfl, b, r, rfl, rfl, _, rfl, ?_⟩
    have second : ¬ (b < r ∧ r < a) → tOrV (fun _ H Q => Q (.bl false) H) (tChain (fun x y H Q => ∃ i j, x = .int i ∧ y = .int j ∧ Q (.bl (decide (i < j))) H) (fun x y H Q => ∃ i j, x = .int i ∧ y = .int j ∧ Q (.bl (decide (i < j))) H) (tVar 2) (tVar 0) (tVar 1)) [some (.int r), some (.int b), some (.int a)] H Q := by
      intro hn
      refine ⟨false, rfl, iteF ⟨.int a, rfl, .int r, rfl, a, r, rfl, rfl, _, rfl, ?_⟩⟩
      by_cases e : a < r
      · rw [decide_eq_true e]
        refine iteT ⟨.int b, rfl, r, b, rfl, rfl, ?_⟩
        have e2 : decide (Btw r b a) = decide (r < b) := by rw [decide_eq_decide]; omega
        rw [e2] at hq
        exact hq
      · rw [decide_eq_false e]
        have e2 : decide (Btw r b a) = false := decide_eq_false (by omega)
        rw [e2] at hq
        exact iteF hq
    by_cases e : b < r
    · rw [decide_eq_true e]
      refine iteT ⟨.int a, rfl, r, a, rfl, rfl, _, rfl, ?_⟩
      by_cases e2 : r < a
      · rw [decide_eq_true e2]
        have e3 : decide (Btw r b a) = true := decide_eq_true (.inl ⟨e, e2⟩)
        rw [e3] at hq
        exact iteT hq
      · rw [decide_eq_false e2]
        obtain ⟨_, h1, h2⟩ := second (fun z => e2 z.2)
        cases h1
        exact h2
    · rw [decide_eq_false e]
      obtain ⟨_, h1, h2⟩ := second (fun z => e z.1)
      cases h1
      exact iteF ⟨false, rfl, h2⟩
end
end PA

/-! turning_points, swings -/
namespace PB
open PySem PySem.Spec PyProof.Rows L2 KA PH PM PA RM RS
theorem atI_last2 (xs : List V) (u v : V) : atI (xs ++ [u] ++ [v]) (-2) = some u := by
  have hl : (xs ++ [u] ++ [v]).length = xs.length + 2 := by simp
  have h : ixN (xs ++ [u] ++ [v]).length (-2) = some xs.length := by
    unfold ixN
    rw [hl, if_neg (by decide), if_pos (by omega)]
    congr 1
    omega
  unfold atI
  rw [h]
  show (xs ++ [u] ++ [v])[xs.length]? = some u
  simp
theorem drop_at {ns : List Int} {i : Nat} {r : Int} (h : ns[i]? = some r) : ns.drop i = r :: ns.drop (i + 1) := by
  obtain ⟨h1, h2⟩ := List.getElem?_eq_some_iff.mp h
  rw [List.drop_eq_getElem_cons h1, h2]
section
variable {P : Program} {w : World} {K : PySem.W.Frag} {mg : Str → Option Value} {base : Heap}
def spTPl (K : PySem.W.Frag) : Sp := fun vs H Q _ => ∃ (a : Addr) (ns : List Int), vs = [.ref a] ∧ SqL K H a (ns.map V.int) ∧ ns.length ≤ 2500 ∧ ∀ H' p, Same H H' → H p = none → H' p = some (.tup ((tp ns).map V.int)) → Q (.ref p) H'
def spTPt (K : PySem.W.Frag) : Sp := fun vs H Q _ => ∃ (a : Addr) (ns : List Int), vs = [.ref a] ∧ SqT K H a (ns.map V.int) ∧ ns.length ≤ 2500 ∧ ∀ H' p, Same H H' → H p = none → H' p = some (.tup ((tp ns).map V.int)) → Q (.ref p) H'
abbrev spTP (K : PySem.W.Frag) : Sp := fun vs H Q E => spTPl K vs H Q E ∨ spTPt K vs H Q E
def spLO (K : PySem.W.Frag) : Sp := fun vs H Q _ => ∃ (a : Addr) (ps : List Int) (r : Int), vs = [.ref a, .int r] ∧ SqL K H a (ps.map V.int) ∧ Q (.bl (lo ps r)) H
theorem ends3 (ps : List Int) : ps = [] ∨ (∃ u, ps = [u]) ∨ ∃ dn b u, ps = dn ++ [b, u] := by
  rcases List.eq_nil_or_concat ps with h | ⟨m1, d, h⟩
  · exact .inl h
  · rcases List.eq_nil_or_concat m1 with h1 | ⟨m2, c, h1⟩
    · subst h1
      exact .inr (.inl ⟨d, by rw [h]; rfl⟩)
    · subst h1
      exact .inr (.inr ⟨m2, c, d, by rw [h]; simp⟩)
theorem ok_LO {f fB : Addr} {fd fdB : FuncData} {k : Nat} (F : Fun K "is_left_out" "is_left_out" sLO f fd) (FB : Fun K "_lies_between" "_lies_between" sBtw fB fdB) (gB : mg "_lies_between" = some (.ref fB)) (bB : Binds K fdB ["reading", "before", "after"] [])
    (ml : mg "len" = none) : FnOk P w K mg base CX0 (k + 2) f fd ["points", "reading"] (spLO K) := by
  have GB : FnOk P w K mg base CX0 (k + 1) fB fdB ["reading", "before", "after"] spBtw := ok_btw FB
  refine F.ok scLO (fun vs H Q E h => ?_) (fun cdv A outer s H vs Q E hr h => ?_)
  · obtain ⟨a, ps, r, rfl, _⟩ := h
    rfl
  · obtain ⟨a, ps, r, rfl, hS, hq⟩ := h
    refine ⟨_, pss_cons (ps_if (pt_not (pt_truth (pv 0) (by intro _; rfl))) (pss_one (ps_ret pe_bl)) pss_nil)
      (pss_cons (ps_set (i := 2) scLO.nd rfl (.inl rfl) (pe_ix ix_list (pv 0) (pe_un un_neg pe_int) (fun _ _ => rfl)))
      (pss_one (ps_ret (pe_or (pe_cmpR op_eq (pv 2) (pv 1) (nomark _)) (pe_one (pe_and (pe_cmpR op_gt (pe_callB call_len_seq (by rfl) ml PySem.boot_len (pa_cons (pv 0) pa_nil)) pe_int (nomark _))
        (pe_one (pe_call GB hr (by rfl) gB FB.kp bB .nil pass0 (pa_cons (pv 2) (pa_cons (pe_ix ix_list (pv 0) (pe_un un_neg pe_int) (fun _ _ => rfl)) (pa_cons (pv 1) pa_nil))))))))))), ?_⟩
    rcases ends3 ps with rfl | ⟨u, rfl⟩ | ⟨dn, b, u, rfl⟩
    · refine ⟨.ref a, rfl, false, .inl ⟨[], hS, rfl⟩, ?_⟩
      refine iteT ?_
      exact hq
    · refine ⟨.ref a, rfl, true, .inl ⟨[.int u], hS, rfl⟩, ?_⟩
      refine iteF ?_
      refine ⟨.ref a, rfl, 1, rfl, a, _, -1, .int u, rfl, rfl, hS, rfl, .int u, rfl, .int r, rfl, rfl, _, rfl, ?_⟩
      by_cases e : u = r
      · rw [show lo [u] r = true from decide_eq_true e] at hq
        rw [decide_eq_true (show V.int u = V.int r by rw [e])]
        exact iteT hq
      · rw [show lo [u] r = false from decide_eq_false e] at hq
        rw [decide_eq_false (show ¬ V.int u = V.int r from fun z => e (V.int.inj z))]
        exact iteF ⟨.ref a, rfl, a, _, rfl, .inl hS, _, _, rfl, rfl, _, rfl, iteF hq⟩
    · have em : ((dn ++ [b, u]).map V.int) = (dn.map V.int ++ [V.int b]) ++ [V.int u] := by simp
      rw [em] at hS
      have e0 : (!((dn.map V.int ++ [V.int b]) ++ [V.int u]).isEmpty) = true := by cases dn <;> rfl
      have hL : ((dn.map V.int ++ [V.int b]) ++ [V.int u]).length = dn.length + 2 := by simp
      rw [lo_two] at hq
      refine ⟨.ref a, rfl, true, .inl ⟨_, hS, e0.symm⟩, ?_⟩
      refine iteF ?_
      refine ⟨.ref a, rfl, 1, rfl, a, _, -1, .int u, rfl, rfl, hS, atI_last _ _, .int u, rfl, .int r, rfl, rfl, _, rfl, ?_⟩
      by_cases e : u = r
      · rw [decide_eq_true e, Bool.true_or] at hq
        rw [decide_eq_true (show V.int u = V.int r by rw [e])]
        exact iteT hq
      · rw [decide_eq_false e, Bool.false_or] at hq
        rw [decide_eq_false (show ¬ V.int u = V.int r from fun z => e (V.int.inj z))]
        have h2 : decide ((((dn.map V.int ++ [V.int b]) ++ [V.int u]).length : Int) > 1) = true := decide_eq_true (by rw [hL]; omega)
        refine iteF ⟨.ref a, rfl, a, _, rfl, .inl hS, _, _, rfl, rfl, _, rfl, ?_⟩
        rw [h2]
        exact iteT ⟨.int u, rfl, .ref a, rfl, 2, rfl, a, _, -2, .int b, rfl, rfl, hS, atI_last2 _ _ _, .int r, rfl, u, b, r, rfl, hq⟩
theorem ok_TPl {f fL : Addr} {fd fdL : FuncData} {k : Nat} (F : Fun K "turning_points" "turning_points" sTP f fd) (GL : FnOk P w K mg base CX0 (k + 2) fL fdL ["points", "reading"] (spLO K)) (gL : mg "is_left_out" = some (.ref fL)) (kL : PySem.W.keepIn K (.ref fL) = true) (bL : Binds K fdL ["points", "reading"] [])
    (mt : mg "tuple" = none) : FnOk P w K mg base CX0 (k + 3) f fd ["load"] (spTPl K) := by
  refine F.ok scTP (fun vs H Q E h => ?_) (fun cdv A outer s H vs Q E hr h => ?_)
  · obtain ⟨a, ns, rfl, _⟩ := h
    rfl
  · obtain ⟨a, ns, rfl, hS, hlen, hq⟩ := h
    refine ⟨_, pss_cons (ps_set (i := 1) scTP.nd rfl (.inl rfl) (pe_lst pa_nil))
      (pss_cons (ps_for PassesOwn.never rfl (pi_list (pv 0)) (pg_name (i := 2) scTP.nd rfl (.inl rfl))
        (pss_cons (ps_if (pt_val (pe_call GL hr (by rfl) gL kL bL .nil pass0 (pa_cons (pv 1) (pa_cons (pv 2) pa_nil))))
              (pss_one (ps_expr (pe_bm0 PySem.F.plainAttrs_list PySem.F.slot_list_pop PySem.F.type_list_pop mt_pop (pv 1)))) pss_nil)
            (pss_one (ps_expr (pe_bm PySem.F.plainAttrs_list PySem.F.slot_list_append PySem.F.type_list_append mt_append (pv 1) (pa_cons (pv 2) pa_nil))))))
      (pss_one (ps_ret (pe_callTy call_tuple_of (by rfl) mt (by decide +kernel) (pa_cons (pv 1) pa_nil))))), ?_⟩
    refine ⟨Nat.zero_le _, fun D nD => ?_⟩
    have sm : ∀ o, Same H (upd H D o) := fun o => same_new nD
    refine ⟨.ref a, rfl, a, rfl, ⟨_, (sm _).seq hS⟩, for_list (K := K) (a := a) (xs := ns.map V.int)
      (fun i σ H' => ∃ (r2 : Option V), σ = [some (.ref a), some (.ref D), r2] ∧ H' = upd H D (.lst ((tp (ns.take i)).map V.int)) ∧ (tp (ns.take i)).length ≤ i) ?_ ?_ ?_ ?_⟩
    · exact ⟨none, rfl, rfl, Nat.le_refl _⟩
    · rintro i σ H' _ ⟨r2, rfl, rfl, _⟩
      exact (sm _).seq hS
    · rintro i x σ H' hx ⟨r2, rfl, rfl, hpl⟩
      obtain ⟨r, hr2, rfl⟩ := int_at hx
      have hin : i < ns.length := (List.getElem?_eq_some_iff.mp hr2).1
      rw [tp_take hr2]
      generalize tp (ns.take i) = ps at hpl ⊢
      have hpl2 := Nat.le_trans (push_len ps r) (Nat.succ_le_succ hpl)
      refine ⟨.ref D, rfl, .int r, rfl, D, ps, r, rfl, SqL.of upd_same, _, rfl, ?_⟩
      have hp := push_lo ps r
      cases hl : lo ps r with
      | true =>
        rw [hl, if_pos rfl] at hp
        have hne : ps ≠ [] := fun z => by rw [z] at hl; cases hl
        obtain ⟨ps', u, rfl⟩ : ∃ ps' u, ps = ps' ++ [u] := by
          rcases List.eq_nil_or_concat ps with h | ⟨m1, d, h⟩
          · exact absurd h hne
          · exact ⟨m1, d, by rw [h]; simp⟩
        rw [List.dropLast_concat] at hp
        have em : (ps' ++ [u]).map V.int = ps'.map V.int ++ [V.int u] := by simp
        have hl' : (ps' ++ [u]).length = ps'.length + 1 := by simp
        refine iteT ⟨.ref D, rfl, .inl ⟨rfl, _, SqL.of upd_same⟩, D, ps'.map V.int ++ [V.int u], .int u, rfl, rfl, by rw [upd_same, em], by simp, ?_⟩
        refine ⟨.ref D, rfl, .inl ⟨rfl, _, SqL.of upd_same⟩, .int r, rfl, D, ps'.map V.int, _, rfl, rfl, by rw [upd_same, List.dropLast_concat], by rw [List.length_map]; exact small3000 (by omega), _, rfl, ?_, hpl2⟩
        rw [upd_upd, upd_upd, hp, List.map_append]
        rfl
      | false =>
        rw [hl, if_neg (by decide)] at hp
        refine iteF ?_
        refine ⟨.ref D, rfl, .inl ⟨rfl, _, SqL.of upd_same⟩, .int r, rfl, D, _, _, rfl, rfl, upd_same, by rw [List.length_map]; exact small3000 (by omega), _, rfl, ?_, hpl2⟩
        rw [upd_upd, hp, List.map_append]
        rfl
    · rintro σ H' ⟨r2, rfl, rfl, hpl⟩
      have et : ns.take (ns.map V.int).length = ns := by rw [List.length_map]; exact List.take_length
      rw [et]
      exact ⟨.ref D, rfl, D, _, rfl, .inl ⟨SqL.of upd_same, fun l nl => hq _ l ((sm _).trans (same_new nl)) ((sm _).free nl) upd_same⟩⟩
theorem ok_TPt {f fL : Addr} {fd fdL : FuncData} {k : Nat} (F : Fun K "turning_points" "turning_points" sTP f fd) (GL : FnOk P w K mg base CX0 (k + 2) fL fdL ["points", "reading"] (spLO K)) (gL : mg "is_left_out" = some (.ref fL)) (kL : PySem.W.keepIn K (.ref fL) = true) (bL : Binds K fdL ["points", "reading"] [])
    (mt : mg "tuple" = none) : FnOk P w K mg base CX0 (k + 3) f fd ["load"] (spTPt K) := by
  refine F.ok scTP (fun vs H Q E h => ?_) (fun cdv A outer s H vs Q E hr h => ?_)
  · obtain ⟨a, ns, rfl, _⟩ := h
    rfl
  · obtain ⟨a, ns, rfl, hS, hlen, hq⟩ := h
    refine ⟨_, pss_cons (ps_set (i := 1) scTP.nd rfl (.inl rfl) (pe_lst pa_nil))
      (pss_cons (ps_for PassesOwn.never rfl (pi_tup (pv 0)) (pg_name (i := 2) scTP.nd rfl (.inl rfl))
        (pss_cons (ps_if (pt_val (pe_call GL hr (by rfl) gL kL bL .nil pass0 (pa_cons (pv 1) (pa_cons (pv 2) pa_nil))))
              (pss_one (ps_expr (pe_bm0 PySem.F.plainAttrs_list PySem.F.slot_list_pop PySem.F.type_list_pop mt_pop (pv 1)))) pss_nil)
            (pss_one (ps_expr (pe_bm PySem.F.plainAttrs_list PySem.F.slot_list_append PySem.F.type_list_append mt_append (pv 1) (pa_cons (pv 2) pa_nil))))))
      (pss_one (ps_ret (pe_callTy call_tuple_of (by rfl) mt (by decide +kernel) (pa_cons (pv 1) pa_nil))))), ?_⟩
    refine ⟨Nat.zero_le _, fun D nD => ?_⟩
    have sm : ∀ o, Same H (upd H D o) := fun o => same_new nD
    refine ⟨.ref a, rfl, a, rfl, ⟨_, SqT_same (sm _) hS⟩, for_tup (K := K) (a := a) (xs := ns.map V.int)
      (fun i σ H' => ∃ (r2 : Option V), σ = [some (.ref a), some (.ref D), r2] ∧ H' = upd H D (.lst ((tp (ns.take i)).map V.int)) ∧ (tp (ns.take i)).length ≤ i) ?_ ?_ ?_ ?_⟩
    · exact ⟨none, rfl, rfl, Nat.le_refl _⟩
    · rintro i σ H' _ ⟨r2, rfl, rfl, _⟩
      exact SqT_same (sm _) hS
    · rintro i x σ H' hx ⟨r2, rfl, rfl, hpl⟩
      obtain ⟨r, hr2, rfl⟩ := int_at hx
      have hin : i < ns.length := (List.getElem?_eq_some_iff.mp hr2).1
      rw [tp_take hr2]
      generalize tp (ns.take i) = ps at hpl ⊢
      have hpl2 := Nat.le_trans (push_len ps r) (Nat.succ_le_succ hpl)
      refine ⟨.ref D, rfl, .int r, rfl, D, ps, r, rfl, SqL.of upd_same, _, rfl, ?_⟩
      have hp := push_lo ps r
      cases hl : lo ps r with
      | true =>
        rw [hl, if_pos rfl] at hp
        have hne : ps ≠ [] := fun z => by rw [z] at hl; cases hl
        obtain ⟨ps', u, rfl⟩ : ∃ ps' u, ps = ps' ++ [u] := by
          rcases List.eq_nil_or_concat ps with h | ⟨m1, d, h⟩
          · exact absurd h hne
          · exact ⟨m1, d, by rw [h]; simp⟩
        rw [List.dropLast_concat] at hp
        have em : (ps' ++ [u]).map V.int = ps'.map V.int ++ [V.int u] := by simp
        have hl' : (ps' ++ [u]).length = ps'.length + 1 := by simp
        refine iteT ⟨.ref D, rfl, .inl ⟨rfl, _, SqL.of upd_same⟩, D, ps'.map V.int ++ [V.int u], .int u, rfl, rfl, by rw [upd_same, em], by simp, ?_⟩
        refine ⟨.ref D, rfl, .inl ⟨rfl, _, SqL.of upd_same⟩, .int r, rfl, D, ps'.map V.int, _, rfl, rfl, by rw [upd_same, List.dropLast_concat], by rw [List.length_map]; exact small3000 (by omega), _, rfl, ?_, hpl2⟩
        rw [upd_upd, upd_upd, hp, List.map_append]
        rfl
      | false =>
        rw [hl, if_neg (by decide)] at hp
        refine iteF ?_
        refine ⟨.ref D, rfl, .inl ⟨rfl, _, SqL.of upd_same⟩, .int r, rfl, D, _, _, rfl, rfl, upd_same, by rw [List.length_map]; exact small3000 (by omega), _, rfl, ?_, hpl2⟩
        rw [upd_upd, hp, List.map_append]
        rfl
    · rintro σ H' ⟨r2, rfl, rfl, hpl⟩
      have et : ns.take (ns.map V.int).length = ns := by rw [List.length_map]; exact List.take_length
      rw [et]
      exact ⟨.ref D, rfl, D, _, rfl, .inl ⟨SqL.of upd_same, fun l nl => hq _ l ((sm _).trans (same_new nl)) ((sm _).free nl) upd_same⟩⟩
end
end PB

/-! swings; the law's own points -/
namespace PC
open PySem PySem.Spec PyProof.Rows L2 KA PH PM PA PB RM RS
theorem cut_to (xs : List V) (k : Nat) : cutV xs none (some ((k : Nat) : Int)) = xs.take k := by
  unfold cutV
  rw [HT.sIx_none, HT.sIx_nat]
  simp only [Nat.sub_zero, List.drop_zero]
  rcases Nat.le_total k xs.length with h | h
  · rw [Nat.min_eq_left h]
  · rw [Nat.min_eq_right h, List.take_length, List.take_of_length_le h]
theorem cut_from (xs : List V) (k : Nat) : cutV xs (some ((k : Nat) : Int)) none = xs.drop k := by
  unfold cutV
  rw [HT.sIx_nat, HT.sIx_none]
  rcases Nat.le_total k xs.length with h | h
  · rw [Nat.min_eq_left h, List.take_of_length_le (by rw [List.length_drop]; omega)]
  · rw [Nat.min_eq_right h, Nat.sub_self, List.drop_eq_nil_of_le h]
    rfl
/-- a list of i pairs stands at R, what was tracked stands -/
def Prs (H0 : Hp) (R : Addr) (ps : List Int) (i : Nat) (H : Hp) : Prop := Same H0 H ∧ ∃ xs, H R = some (.lst xs) ∧ PairsAt H xs ((sw ps).take i)
theorem Prs.start {H0 : Hp} {R : Addr} (ps : List Int) (n : H0 R = none) : Prs H0 R ps 0 (upd H0 R (.lst [])) := ⟨same_new n, [], upd_same, trivial⟩
theorem Prs.turn {H0 H1 H2 : Hp} {R q : Addr} {ps : List Int} {i : Nat} {x y : Int} (g : Prs H0 R ps i H1) (n : H0 R = none) (s : Same H1 H2) (nq : H2 q = none) (hx : ps[i]? = some x) (hy : ps[i + 1]? = some y) (hl : ps.length ≤ 2500) :
    ∃ acc, (upd H2 q (.tup [.int (rg x y).1, .int (rg x y).2])) R = some (.lst acc) ∧ acc.length < sizeLine ∧ Prs H0 R ps (i + 1) (upd (upd H2 q (.tup [.int (rg x y).1, .int (rg x y).2])) R (.lst (acc ++ [.ref q]))) := by
  obtain ⟨s0, xs, e, pa⟩ := g
  have e2 := s _ _ e
  have nRq : R ≠ q := ne_of_none e2 nq
  have sq : Same H2 (upd H2 q (.tup [.int (rg x y).1, .int (rg x y).2])) := same_new nq
  have hi : i < ps.length := (List.getElem?_eq_some_iff.mp hx).1
  have hxl : xs.length ≤ i := by rw [pa.length, List.length_take]; omega
  refine ⟨xs, sq _ _ e2, small3000 (by omega), same_again n ((s0.trans s).trans sq), xs ++ [.ref q], upd_same, ?_⟩
  rw [sw_take ps i x y hx hy]
  have other : ∀ {ys : List V} {rs : List (Int × Int)}, PairsAt H1 ys rs → PairsAt (upd (upd H2 q (.tup [.int (rg x y).1, .int (rg x y).2])) R (.lst (xs ++ [.ref q]))) ys rs := by
    intro ys
    induction ys with
    | nil => intro rs h; cases rs with
      | nil => trivial
      | cons _ _ => exact h.elim
    | cons z zs ih =>
      intro rs h
      cases rs with
      | nil => exact h.elim
      | cons r rs =>
        obtain ⟨⟨p, h1, h2⟩, h3⟩ := h
        have h4 := sq _ _ (s _ _ h2)
        have npR : p ≠ R := fun z => by rw [z, e] at h2; cases h2
        exact ⟨⟨p, h1, by rw [upd_ne npR]; exact h4⟩, ih h3⟩
  refine PairsAt.append (other pa) ⟨⟨q, rfl, ?_⟩, trivial⟩
  rw [upd_ne nRq.symm, upd_same]
theorem Prs.all {H0 H : Hp} {R : Addr} {ps : List Int} {i : Nat} (g : Prs H0 R ps i H) (h : ps.length - 1 ≤ i) : ∃ xs, H R = some (.lst xs) ∧ PairsAt H xs (sw ps) := by
  obtain ⟨_, xs, e, pa⟩ := g
  rw [List.take_of_length_le (by rw [sw_len]; exact h)] at pa
  exact ⟨xs, e, pa⟩
section
variable {P : Program} {w : World} {K : PySem.W.Frag} {mg : Str → Option Value} {base : Heap}
def spSw (K : PySem.W.Frag) : Sp := fun vs H Q _ => ∃ (a : Addr) (ns : List Int), vs = [.ref a] ∧ Sq K H a (ns.map V.int) ∧ ns.length ≤ 2500 ∧ ∀ H' p xs, Same H H' → H p = none → H' p = some (.lst xs) → PairsAt H' xs (sw (tp ns)) → Q (.ref p) H'
theorem ok_sw {f fP fR : Addr} {fd fdP fdR : FuncData} {k : Nat} (F : Fun K "swings" "swings" sSw f fd) (GP : FnOk P w K mg base CX0 (k + 2) fP fdP ["load"] (spTP K)) (gP : mg "turning_points" = some (.ref fP)) (kP : PySem.W.keepIn K (.ref fP) = true) (bP : Binds K fdP ["load"] [])
    (GR : FnOk P w K mg base CX0 (k + 1) fR fdR ["one", "other"] spRng) (gR : mg "range_of" = some (.ref fR)) (kR : PySem.W.keepIn K (.ref fR) = true) (bR : Binds K fdR ["one", "other"] []) (mz : mg "zip" = none) : FnOk P w K mg base CX0 (k + 3) f fd ["load"] (spSw K) := by
  refine F.ok scSw (fun vs H Q E h => ?_) (fun cdv A outer s H vs Q E hr h => ?_)
  · obtain ⟨a, ns, rfl, _⟩ := h
    rfl
  · obtain ⟨a, ns, rfl, hS, hlen, hq⟩ := h
    have h1 := hr.mono (Nat.le_succ (k + 1))
    refine ⟨_, pss_cons (ps_set (i := 1) scSw.nd rfl (.inl rfl) (pe_call GP hr (by rfl) gP kP bP .nil pass0 (pa_cons (pv 0) pa_nil)))
      (pss_one (ps_ret (pe_lc (own := [("one", 2), ("other", 3)]) (g := gTup K 2 (gCons (gName 2) (gCons (gName 3) gNil))) rfl scSw.nd
        (RZ.pi_zipA (by rfl) mz (pa_cons (pv 1) (pa_cons (pe_slice sl_tupA (pv 1) (po_some pe_int) po_none) pa_nil)))
        (blkOk_by (own := [("one", 2), ("other", 3)]) (N := ["load", "points", "one", "other"]) (sc := defScope sSw) (by decide +kernel))
        (fun _ _ _ _ _ => pg_tup rfl (pgs_cons (pg_name (i := 2) scSw.nd rfl (Or.inl rfl) (Or.inr rfl)) (pgs_cons (pg_name (i := 3) scSw.nd rfl (Or.inl rfl) (Or.inr rfl)) pgs_nil)))
        (fun _ _ _ _ _ => pts_nil) (fun _ _ _ _ _ => pe_call GR h1 (by rfl) gR kR bR .nil pass0 (pa_cons (pv 2) (pa_cons (pv 3) pa_nil)))))), ?_⟩
    refine ⟨.ref a, rfl, ?_⟩
    have hps : (tp ns).length ≤ 2500 := Nat.le_trans (tp_len ns) hlen
    rcases hS with hS | hS
    · refine .inl ⟨a, ns, rfl, hS, hlen, fun H1 t s1 nt et => ?_⟩
      refine ⟨.ref t, rfl, .ref t, rfl, 1, rfl, t, (tp ns).map V.int, rfl, SqT.of et, fun hw => ?_, fun hn c nc => ?_⟩
      · have e0 : (tp ns).map V.int = [] := by
          have z := hw.1
          rw [show (some (1 : Int)) = some ((1 : Nat) : Int) from rfl, HT.sIx_nat] at z
          exact List.length_eq_zero_iff.mp (by omega)
        have hc : SqT K H1 t (((tp ns).map V.int).drop 1) := by
          rw [e0]
          rw [e0] at et
          exact SqT.of et
        have s2 := Same.refl H1
        refine ⟨t, t, (tp ns).map V.int, ((tp ns).map V.int).drop 1, rfl, .inr ⟨SqT.of (s2 _ _ et), hc, fun R nR => lc_it (walk_tups (K := K) (a := t) (b := t) (xs := (tp ns).map V.int) (ys := ((tp ns).map V.int).drop 1) (n := (tp ns).length - 1) (by rw [List.length_drop, List.length_map]; omega))
          (fun i H' => Prs H1 R (tp ns) i H') (Prs.start _ nR) (fun i H' _ g => ⟨SqT.of (g.1 _ _ (s2 _ _ et)), SqT_same g.1 hc⟩) ?_ ?_⟩⟩
        · rintro i x H3 H4 hi g ⟨T, u, v, rfl, nT, rfl, g1, g2⟩
          have g1 : ((tp ns).map V.int)[i]? = some u := g1
          have g2 : (((tp ns).map V.int).drop 1)[i]? = some v := g2
          rw [List.getElem?_drop, Nat.add_comm 1 i] at g2
          obtain ⟨x, hx, rfl⟩ := int_at g1
          obtain ⟨y, hy, rfl⟩ := int_at g2
          refine ⟨T, [.int x, .int y], rfl, SqT.of upd_same, rfl, .int x, [.int y], rfl, .int y, [], rfl, rfl, rfl, ?_⟩
          refine iteT (B := True) ?_
          exact ⟨.int x, rfl, .int y, rfl, x, y, rfl, fun q nq => g.turn nR (same_new nT) nq hx hy hps⟩
        · intro H' g
          obtain ⟨xs, e, pa⟩ := g.all (Nat.le_refl _)
          exact hq H' R xs ((s1.trans s2).trans g.1) ((s1.trans s2).free nR) e pa
      · have hc : SqT K (upd H1 c (.tup (cutV ((tp ns).map V.int) (some 1) none))) c (((tp ns).map V.int).drop 1) := SqT.of (by rw [upd_same, show (some (1 : Int)) = some ((1 : Nat) : Int) from rfl, cut_from])
        have s2 : Same H1 (upd H1 c (.tup (cutV ((tp ns).map V.int) (some 1) none))) := same_new nc
        refine ⟨t, c, (tp ns).map V.int, ((tp ns).map V.int).drop 1, rfl, .inr ⟨SqT.of (s2 _ _ et), hc, fun R nR => lc_it (walk_tups (K := K) (a := t) (b := c) (xs := (tp ns).map V.int) (ys := ((tp ns).map V.int).drop 1) (n := (tp ns).length - 1) (by rw [List.length_drop, List.length_map]; omega))
          (fun i H' => Prs _ R (tp ns) i H') (Prs.start _ nR) (fun i H' _ g => ⟨SqT.of (g.1 _ _ (s2 _ _ et)), SqT_same g.1 hc⟩) ?_ ?_⟩⟩
        · rintro i x H3 H4 hi g ⟨T, u, v, rfl, nT, rfl, g1, g2⟩
          have g1 : ((tp ns).map V.int)[i]? = some u := g1
          have g2 : (((tp ns).map V.int).drop 1)[i]? = some v := g2
          rw [List.getElem?_drop, Nat.add_comm 1 i] at g2
          obtain ⟨x, hx, rfl⟩ := int_at g1
          obtain ⟨y, hy, rfl⟩ := int_at g2
          refine ⟨T, [.int x, .int y], rfl, SqT.of upd_same, rfl, .int x, [.int y], rfl, .int y, [], rfl, rfl, rfl, ?_⟩
          refine iteT (B := True) ?_
          exact ⟨.int x, rfl, .int y, rfl, x, y, rfl, fun q nq => g.turn nR (same_new nT) nq hx hy hps⟩
        · intro H' g
          obtain ⟨xs, e, pa⟩ := g.all (Nat.le_refl _)
          exact hq H' R xs ((s1.trans s2).trans g.1) ((s1.trans s2).free nR) e pa
    · refine .inr ⟨a, ns, rfl, hS, hlen, fun H1 t s1 nt et => ?_⟩
      refine ⟨.ref t, rfl, .ref t, rfl, 1, rfl, t, (tp ns).map V.int, rfl, SqT.of et, fun hw => ?_, fun hn c nc => ?_⟩
      · have e0 : (tp ns).map V.int = [] := by
          have z := hw.1
          rw [show (some (1 : Int)) = some ((1 : Nat) : Int) from rfl, HT.sIx_nat] at z
          exact List.length_eq_zero_iff.mp (by omega)
        have hc : SqT K H1 t (((tp ns).map V.int).drop 1) := by
          rw [e0]
          rw [e0] at et
          exact SqT.of et
        have s2 := Same.refl H1
        refine ⟨t, t, (tp ns).map V.int, ((tp ns).map V.int).drop 1, rfl, .inr ⟨SqT.of (s2 _ _ et), hc, fun R nR => lc_it (walk_tups (K := K) (a := t) (b := t) (xs := (tp ns).map V.int) (ys := ((tp ns).map V.int).drop 1) (n := (tp ns).length - 1) (by rw [List.length_drop, List.length_map]; omega))
          (fun i H' => Prs H1 R (tp ns) i H') (Prs.start _ nR) (fun i H' _ g => ⟨SqT.of (g.1 _ _ (s2 _ _ et)), SqT_same g.1 hc⟩) ?_ ?_⟩⟩
        · rintro i x H3 H4 hi g ⟨T, u, v, rfl, nT, rfl, g1, g2⟩
          have g1 : ((tp ns).map V.int)[i]? = some u := g1
          have g2 : (((tp ns).map V.int).drop 1)[i]? = some v := g2
          rw [List.getElem?_drop, Nat.add_comm 1 i] at g2
          obtain ⟨x, hx, rfl⟩ := int_at g1
          obtain ⟨y, hy, rfl⟩ := int_at g2
          refine ⟨T, [.int x, .int y], rfl, SqT.of upd_same, rfl, .int x, [.int y], rfl, .int y, [], rfl, rfl, rfl, ?_⟩
          refine iteT (B := True) ?_
          exact ⟨.int x, rfl, .int y, rfl, x, y, rfl, fun q nq => g.turn nR (same_new nT) nq hx hy hps⟩
        · intro H' g
          obtain ⟨xs, e, pa⟩ := g.all (Nat.le_refl _)
          exact hq H' R xs ((s1.trans s2).trans g.1) ((s1.trans s2).free nR) e pa
      · have hc : SqT K (upd H1 c (.tup (cutV ((tp ns).map V.int) (some 1) none))) c (((tp ns).map V.int).drop 1) := SqT.of (by rw [upd_same, show (some (1 : Int)) = some ((1 : Nat) : Int) from rfl, cut_from])
        have s2 : Same H1 (upd H1 c (.tup (cutV ((tp ns).map V.int) (some 1) none))) := same_new nc
        refine ⟨t, c, (tp ns).map V.int, ((tp ns).map V.int).drop 1, rfl, .inr ⟨SqT.of (s2 _ _ et), hc, fun R nR => lc_it (walk_tups (K := K) (a := t) (b := c) (xs := (tp ns).map V.int) (ys := ((tp ns).map V.int).drop 1) (n := (tp ns).length - 1) (by rw [List.length_drop, List.length_map]; omega))
          (fun i H' => Prs _ R (tp ns) i H') (Prs.start _ nR) (fun i H' _ g => ⟨SqT.of (g.1 _ _ (s2 _ _ et)), SqT_same g.1 hc⟩) ?_ ?_⟩⟩
        · rintro i x H3 H4 hi g ⟨T, u, v, rfl, nT, rfl, g1, g2⟩
          have g1 : ((tp ns).map V.int)[i]? = some u := g1
          have g2 : (((tp ns).map V.int).drop 1)[i]? = some v := g2
          rw [List.getElem?_drop, Nat.add_comm 1 i] at g2
          obtain ⟨x, hx, rfl⟩ := int_at g1
          obtain ⟨y, hy, rfl⟩ := int_at g2
          refine ⟨T, [.int x, .int y], rfl, SqT.of upd_same, rfl, .int x, [.int y], rfl, .int y, [], rfl, rfl, rfl, ?_⟩
          refine iteT (B := True) ?_
          exact ⟨.int x, rfl, .int y, rfl, x, y, rfl, fun q nq => g.turn nR (same_new nT) nq hx hy hps⟩
        · intro H' g
          obtain ⟨xs, e, pa⟩ := g.all (Nat.le_refl _)
          exact hq H' R xs ((s1.trans s2).trans g.1) ((s1.trans s2).free nR) e pa
end
end PC

/-! places, points taken out -/
namespace QE
open PySem PySem.Spec PyProof.Rows L2 KA PH PM PA PB PC RM RN RS
abbrev sMT : Stmt := topS 12
abbrev sPB : Stmt := topS 13
abbrev sCo : Stmt := topS 14
abbrev sClass : Stmt := topS 15
abbrev sLaw : Stmt := topS 26
theorem scMT : FnScope ["points", "place", "size"] ["points", "place"] (defScope sMT) := ⟨rfl, rfl, rfl, by decide +kernel, rfl, by decide +kernel, by decide +kernel⟩
theorem Sq.ix {K : PySem.W.Frag} {H : Hp} {a : Addr} {xs : List V} {z : Int} {v : V} {Q : VK} (h : Sq K H a xs) (e : atI xs z = some v) (q : Q v H) : rIx K (.ref a) (.int z) H Q := by
  rcases h with h | h
  · exact .inl ⟨a, xs, z, v, rfl, rfl, h, e, q⟩
  · exact .inr (.inl ⟨a, xs, z, v, rfl, rfl, h, e, q⟩)
section
variable {P : Program} {w : World} {K : PySem.W.Frag} {mg : Str → Option Value} {base : Heap}
def spMT (K : PySem.W.Frag) : Sp := fun vs H Q _ => ∃ (a : Addr) (ps : List Int) (i : Nat) (z x y t u : Int), vs = [.ref a, .int z] ∧ z = (i : Int) + 1 ∧ Sq K H a (ps.map V.int) ∧ ZZ ps ∧ ps[i]? = some x ∧ ps[i + 1]? = some y ∧ ps[i + 2]? = some t ∧ ps[i + 3]? = some u ∧
  ∀ H', Same H H' → Q (.bl (takenAt ps i)) H'
theorem abs_i (i : Int) : (if i < 0 then -i else i) = (i.natAbs : Int) := by split <;> omega
theorem ok_MT {f : Addr} {fd : FuncData} {k : Nat} (F : Fun K "_may_be_taken" "_may_be_taken" sMT f fd) (ma : mg "abs" = none) : FnOk P w K mg base CX0 (k + 1) f fd ["points", "place"] (spMT K) := by
  refine F.ok scMT (fun vs H Q E h => ?_) (fun cdv A outer s H vs Q E hr h => ?_)
  · obtain ⟨a, ps, i, z, x, y, t, u, rfl, _⟩ := h
    rfl
  · obtain ⟨a, ps, i, z, x, y, t, u, rfl, rfl, hS, zz, e0, e1, e2, e3, hq⟩ := h
    refine ⟨_, pss_cons (ps_set (i := 2) scMT.nd rfl (.inl rfl) (pe_callB call_abs (by rfl) ma (by decide +kernel) (pa_cons (pe_op op_sub (pe_ix ix_seq (pv 0) (pe_op op_add (pv 1) pe_int) (fun _ _ => rfl)) (pe_ix ix_seq (pv 0) (pv 1) (fun _ _ => rfl))) pa_nil)))
      (pss_one (ps_ret (pe_and (pe_cmpR op_ge (pe_callB call_abs (by rfl) ma (by decide +kernel) (pa_cons (pe_op op_sub (pe_ix ix_seq (pv 0) (pv 1) (fun _ _ => rfl)) (pe_ix ix_seq (pv 0) (pe_op op_sub (pv 1) pe_int) (fun _ _ => rfl))) pa_nil)) (pv 2) (nomark _))
        (pe_one (pe_cmpR op_ge (pe_callB call_abs (by rfl) ma (by decide +kernel) (pa_cons (pe_op op_sub (pe_ix ix_seq (pv 0) (pe_op op_add (pv 1) pe_int) (fun _ _ => rfl)) (pe_ix ix_seq (pv 0) (pe_op op_add (pv 1) pe_int) (fun _ _ => rfl))) pa_nil)) (pv 2) (nomark _)))))), ?_⟩
    have a0 : atI (ps.map V.int) ((i : Int) + 1 - 1) = some (.int x) := at_of (j := i) (by omega) (at_int e0)
    have a1 : atI (ps.map V.int) ((i : Int) + 1) = some (.int y) := at_of (j := i + 1) (by omega) (at_int e1)
    have a2 : atI (ps.map V.int) ((i : Int) + 1 + 1) = some (.int t) := at_of (j := i + 2) (by omega) (at_int e2)
    have a3 : atI (ps.map V.int) ((i : Int) + 1 + 2) = some (.int u) := at_of (j := i + 3) (by omega) (at_int e3)
    have hq2 := hq H (Same.refl H)
    rw [taken_get e0 e1 e2 e3] at hq2
    have eT : decide (Taken x y t u) = (decide (((y - x).natAbs : Int) ≥ ((t - y).natAbs : Int)) && decide (((u - t).natAbs : Int) ≥ ((t - y).natAbs : Int))) := by
      rw [← Bool.decide_and, decide_eq_decide]
      exact taken_abs (zz_at zz e0 e1 e2 e3)
    rw [eT] at hq2
    refine ⟨.ref a, rfl, .int ((i : Int) + 1), rfl, _, 1, rfl, rfl, Sq.ix hS a2 ⟨.ref a, rfl, .int ((i : Int) + 1), rfl, Sq.ix hS a1 ⟨t, y, rfl, rfl, _, rfl, ?_⟩⟩⟩
    refine ⟨.ref a, rfl, .int ((i : Int) + 1), rfl, Sq.ix hS a1 ⟨.ref a, rfl, .int ((i : Int) + 1), rfl, _, 1, rfl, rfl, Sq.ix hS a0 ⟨y, x, rfl, rfl, _, rfl, ?_⟩⟩⟩
    refine ⟨_, rfl, _, _, rfl, rfl, _, rfl, ?_⟩
    rw [abs_i, abs_i]
    cases h1 : decide (((y - x).natAbs : Int) ≥ ((t - y).natAbs : Int)) with
    | true =>
      rw [h1, Bool.true_and] at hq2
      refine iteT ⟨.ref a, rfl, .int ((i : Int) + 1), rfl, _, 2, rfl, rfl, Sq.ix hS a3 ⟨.ref a, rfl, .int ((i : Int) + 1), rfl, _, 1, rfl, rfl, Sq.ix hS a2 ⟨u, t, rfl, rfl, _, rfl, ?_⟩⟩⟩
      refine ⟨_, rfl, _, _, rfl, rfl, ?_⟩
      rw [abs_i]
      exact hq2
    | false =>
      rw [h1, Bool.false_and] at hq2
      exact iteF hq2
def spRem (K : PySem.W.Frag) : Sp := fun vs H Q _ => ∃ (a : Addr) (ps : List Int), vs = [.ref a] ∧ Sq K H a (ps.map V.int) ∧ ZZ ps ∧ ps.length ≤ 2500 ∧ ∀ H' p, Same H H' → H p = none → H' p = some (.tup ((plc ps).map V.int)) → Q (.ref p) H'
end
end QE

/-! take; the stack -/
namespace QF
open PySem PySem.Spec PyProof.Rows L2 KA PH PM PA PB PC RM RN RS QE
theorem scPB : FnScope ["rest", "reading", "cycles"] ["rest", "reading"] (defScope sPB) := ⟨rfl, rfl, rfl, by decide +kernel, rfl, by decide +kernel, by decide +kernel⟩
theorem scCo : FnScope ["load", "cycles", "rest", "reading"] ["load"] (defScope sCo) := ⟨rfl, rfl, rfl, by decide +kernel, rfl, by decide +kernel, by decide +kernel⟩
theorem taken_all {ps : List Int} {i : Nat} (h : takenAt ps i = true) : ∃ x y t u, ps[i]? = some x ∧ ps[i + 1]? = some y ∧ ps[i + 2]? = some t ∧ ps[i + 3]? = some u := by
  have := taken_lt h
  exact ⟨_, _, _, _, List.getElem?_eq_getElem (by omega), List.getElem?_eq_getElem (by omega), List.getElem?_eq_getElem (by omega), List.getElem?_eq_getElem (by omega)⟩
section
variable {P : Program} {w : World} {K : PySem.W.Frag} {mg : Str → Option Value} {base : Heap}
def spIR (K : PySem.W.Frag) : Sp := fun vs H Q _ => ∃ (a : Addr) (ps : List Int) (i : Nat) (z : Int), vs = [.ref a, .int z] ∧ z = (i : Int) + 1 ∧ Sq K H a (ps.map V.int) ∧ ZZ ps ∧ takenAt ps i = true ∧ ∀ H', Same H H' → Q (.bl true) H'
def spNum : Sp := fun vs H Q _ => ∃ z : Int, vs = [.int z] ∧ Q (.bl true) H
end
end QF

/-! the stack -/
namespace QG
open PySem PySem.Spec PyProof.Rows L2 KA PH PM PA PB PC RM RN RS KD QE QF
theorem atI_last3 (xs : List V) (u v w : V) : atI (xs ++ [u, v, w]) (-3) = some u := by
  have hl : (xs ++ [u, v, w]).length = xs.length + 3 := by simp
  have h : ixN (xs ++ [u, v, w]).length (-3) = some xs.length := by
    unfold ixN
    rw [hl, if_neg (by decide), if_pos (by omega)]
    congr 1
    omega
  unfold atI
  rw [h]
  show (xs ++ [u, v, w])[xs.length]? = some u
  simp
theorem atI_last2' (xs : List V) (u v w : V) : atI (xs ++ [u, v, w]) (-2) = some v := by
  have := atI_last2 (xs ++ [u]) v w
  simpa using this
theorem last3 : ∀ {m : List Int}, 3 ≤ m.length → ∃ pre b c d, m = pre ++ [b, c, d] := by
  intro m h
  rcases List.eq_nil_or_concat m with rfl | ⟨m1, d, rfl⟩
  · simp at h
  · rcases List.eq_nil_or_concat m1 with rfl | ⟨m2, c, rfl⟩
    · simp at h
    · rcases List.eq_nil_or_concat m2 with rfl | ⟨m3, b, rfl⟩
      · simp at h
      · exact ⟨m3, b, c, d, by simp⟩
theorem pairs_upd {H : Hp} {R : Addr} {l l' : List V} (e : H R = some (.lst l)) : ∀ {xs : List V} {rs : List (Int × Int)}, PairsAt H xs rs → PairsAt (upd H R (.lst l')) xs rs
  | [], [], _ => trivial
  | x :: xs, r :: rs, ⟨⟨p, h1, h2⟩, h3⟩ => ⟨⟨p, h1, by rw [upd_ne (fun z => by rw [z, e] at h2; cases h2)]; exact h2⟩, pairs_upd e h3⟩
  | [], _ :: _, h => h.elim
  | _ :: _, [], h => h.elim
section
variable {P : Program} {w : World} {K : PySem.W.Frag} {mg : Str → Option Value} {base : Heap}
def spTPq (K : PySem.W.Frag) : Sp := fun vs H Q _ => ∃ (a : Addr) (ns : List Int), vs = [.ref a] ∧ Sq K H a (ns.map V.int) ∧ ns.length ≤ 2500 ∧ ∀ H' p, Same H H' → H p = none → H' p = some (.tup ((tp ns).map V.int)) → Q (.ref p) H'
theorem tpq_of {k : Nat} {f : Addr} {fd : FuncData} (G : FnOk P w K mg base CX0 k f fd ["load"] (spTP K)) : FnOk P w K mg base CX0 k f fd ["load"] (spTPq K) :=
  G.imp fun vs H Q E ⟨a, ns, e, hs, hl, q⟩ => hs.elim (fun z => .inl ⟨a, ns, e, z, hl, q⟩) (fun z => .inr ⟨a, ns, e, z, hl, q⟩)
theorem ch_pairs {f : Addr} {H H' : Hp} {l : List V} (c : Ch f H H') (e : H f = some (.lst l)) : ∀ {xs : List V} {rs : List (Int × Int)}, PairsAt H xs rs → PairsAt H' xs rs
  | [], [], _ => trivial
  | x :: xs, r :: rs, ⟨⟨p, h1, h2⟩, h3⟩ => ⟨⟨p, h1, c _ _ (fun z => by rw [z, e] at h2; cases h2) h2⟩, ch_pairs c e h3⟩
  | [], _ :: _, h => h.elim
  | _ :: _, [], h => h.elim
/-- what put_behind holds -/
structure Bhd (H : Hp) (C R : Addr) (xs : List V) (cs : List (Int × Int)) (rs : List Int) (Hx : Hp) : Prop where
  ch : Ch R H Hx
  c : Hx C = some (.lst xs)
  pa : PairsAt Hx xs cs
  r : Hx R = some (.lst (rs.map V.int))
theorem Bhd.same {H : Hp} {C R : Addr} {xs : List V} {cs : List (Int × Int)} {rs : List Int} {H1 H2 : Hp} (g : Bhd H C R xs cs rs H1) (s : Same H1 H2) : Bhd H C R xs cs rs H2 :=
  ⟨g.ch.trans (.of_same s), s _ _ g.c, g.pa.same s, s _ _ g.r⟩
theorem Bhd.rest {H : Hp} {C R : Addr} {xs : List V} {cs : List (Int × Int)} {rs : List Int} {H1 : Hp} (g : Bhd H C R xs cs rs H1) (nCR : C ≠ R) (rs' : List Int) : Bhd H C R xs cs rs' (upd H1 R (.lst (rs'.map V.int))) :=
  ⟨g.ch.trans .put, by rw [upd_ne nCR]; exact g.c, pairs_upd g.r g.pa, upd_same⟩
theorem Bhd.cyc {H : Hp} {C R q : Addr} {xs : List V} {cs : List (Int × Int)} {rs : List Int} {H1 : Hp} {c : Int × Int} (g : Bhd H C R xs cs rs H1) (nC : H C = none) (nCR : C ≠ R) (hq : H1 q = some (.tup [.int c.1, .int c.2])) :
    Bhd H C R (xs ++ [.ref q]) (cs ++ [c]) rs (upd H1 C (.lst (xs ++ [.ref q]))) :=
  ⟨Ch.again nC g.ch, upd_same, PairsAt.append (pairs_upd g.c g.pa) ⟨⟨q, rfl, by rw [upd_ne (fun z => by rw [z, g.c] at hq; cases hq)]; exact hq⟩, trivial⟩, by rw [upd_ne nCR.symm]; exact g.r⟩
def spPB : Sp := fun vs H Q _ => ∃ (R : Addr) (rs : List Int) (r : Int), vs = [.ref R, .int r] ∧ H R = some (.lst (rs.map V.int)) ∧ ZZ rs ∧ NF rs ∧ rs.length ≤ 2500 ∧
  ∀ H' p xs cs rs', Ch R H H' → H p = none → H' p = some (.lst xs) → PairsAt H' xs cs → H' R = some (.lst (rs'.map V.int)) → Run (push rs r) cs rs' → NF rs' → Q (.ref p) H'
theorem ok_PB {f fL fM fR : Addr} {fd fdL fdM fdR : FuncData} {k : Nat} (F : Fun K "put_behind" "put_behind" sPB f fd)
    (GL : FnOk P w K mg base CX0 (k + 2) fL fdL ["points", "reading"] (spLO K)) (gL : mg "is_left_out" = some (.ref fL)) (kL : PySem.W.keepIn K (.ref fL) = true) (bL : Binds K fdL ["points", "reading"] [])
    (GM : FnOk P w K mg base CX0 (k + 2) fM fdM ["points", "place"] (spMT K)) (gM : mg "_may_be_taken" = some (.ref fM)) (kM : PySem.W.keepIn K (.ref fM) = true) (bM : Binds K fdM ["points", "place"] [])
    (GR : FnOk P w K mg base CX0 (k + 2) fR fdR ["one", "other"] spRng) (gR : mg "range_of" = some (.ref fR)) (kR : PySem.W.keepIn K (.ref fR) = true) (bR : Binds K fdR ["one", "other"] [])
    (ml : mg "len" = none) : FnOk P w K mg base CX0 (k + 3) f fd ["rest", "reading"] spPB := by
  refine F.ok scPB (fun vs H Q E h => ?_) (fun cdv A outer s H vs Q E hr h => ?_)
  · obtain ⟨R, rs, r, rfl, _⟩ := h
    rfl
  · obtain ⟨R, rs0, r, rfl, eR, zz0, nf0, hlen, hq⟩ := h
    refine ⟨_, pss_cons (ps_if (pt_val (pe_call GL hr (by rfl) gL kL bL .nil pass0 (pa_cons (pv 0) (pa_cons (pv 1) pa_nil))))
          (pss_one (ps_expr (pe_bm0 PySem.F.plainAttrs_list PySem.F.slot_list_pop PySem.F.type_list_pop mt_pop (pv 0)))) pss_nil)
      (pss_cons (ps_expr (pe_bm PySem.F.plainAttrs_list PySem.F.slot_list_append PySem.F.type_list_append mt_append (pv 0) (pa_cons (pv 1) pa_nil)))
      (pss_cons (ps_set (i := 2) scPB.nd rfl (.inl rfl) (pe_lst pa_nil))
      (pss_cons (ps_while PassesOwn.never
            (PW.pt (pw_and (pt_cmpR op_gt (pe_callB call_len_seq (by rfl) ml PySem.boot_len (pa_cons (pv 0) pa_nil)) pe_int (nomark _)) (pw_and1 (pt_val (pe_call GM hr (by rfl) gM kM bM .nil pass0 (pa_cons (pv 0) (pa_cons (pe_op op_sub (pe_callB call_len_seq (by rfl) ml PySem.boot_len (pa_cons (pv 0) pa_nil)) pe_int) pa_nil)))))))
            (pss_cons (ps_expr (pe_bm PySem.F.plainAttrs_list PySem.F.slot_list_append PySem.F.type_list_append mt_append (pv 2) (pa_cons (pe_call GR hr (by rfl) gR kR bR .nil pass0 (pa_cons (pe_ix ix_list (pv 0) (pe_un un_neg pe_int) (fun _ _ => rfl)) (pa_cons (pe_ix ix_list (pv 0) (pe_un un_neg pe_int) (fun _ _ => rfl)) pa_nil))) pa_nil)))
              (pss_one (DS.ps_del31 (pv 0) (po_some (pe_un un_neg pe_int)) (po_some (pe_un un_neg pe_int))))))
      (pss_one (ps_ret (pv 2)))))), ?_⟩
    have zz1 : ZZ (push rs0 r) := zz_push r zz0
    have hp := push_lo rs0 r
    have hpl := push_len rs0 r
    refine ⟨.ref R, rfl, .int r, rfl, R, rs0, r, rfl, SqL.of eR, _, rfl, ?_⟩
    obtain ⟨m, nfm, em, hm1⟩ : ∃ m, NF m ∧ push rs0 r = m ++ [r] ∧ m = (if lo rs0 r = true then rs0.dropLast else rs0) := by
      refine ⟨_, ?_, hp, rfl⟩
      split
      · rcases List.eq_nil_or_concat rs0 with h | ⟨m1, d, h⟩
        · rw [h] at nf0 ⊢
          exact nf0
        · have h : rs0 = m1 ++ [d] := by rw [h]; simp
          rw [h] at nf0 ⊢
          rw [List.dropLast_concat]
          exact nf_prefix nf0
      · exact nf0
    rw [em] at zz1 hpl hq
    have hml : m.length ≤ 2500 := by
      rw [hm1]
      split
      · rw [List.length_dropLast]; omega
      · exact hlen
    have e1 : m.map V.int ++ [V.int r] = (m ++ [r]).map V.int := by rw [List.map_append]; rfl
    have start : ∀ C, (upd H R (.lst ((m ++ [r]).map V.int))) C = none → Bhd H C R [] [] (m ++ [r]) (upd (upd H R (.lst ((m ++ [r]).map V.int))) C (.lst [])) ∧ C ≠ R ∧ H C = none := by
      intro C nC
      have nCR : C ≠ R := fun z => by rw [z, upd_same] at nC; cases nC
      have nC0 : H C = none := by rw [upd_ne nCR] at nC; exact nC
      refine ⟨⟨.again nC0 .put, upd_same, trivial, by rw [upd_ne nCR.symm, upd_same]⟩, nCR, nC0⟩
    cases hl : lo rs0 r
    · rw [hl, if_neg (by decide)] at hm1
      subst hm1
      refine iteF ?_
      refine ⟨.ref R, rfl, .inl ⟨rfl, _, SqL.of eR⟩, .int r, rfl, R, _, _, rfl, rfl, eR, by rw [List.length_map]; exact small3000 (by omega), ?_⟩
      rw [e1]
      refine ⟨Nat.zero_le _, fun C nC => ?_⟩
      obtain ⟨g1, nCR, nC0⟩ := start C nC
      generalize upd (upd H R (.lst ((m ++ [r]).map V.int))) C (.lst []) = Hs at g1 ⊢
      refine ⟨fun n σ Hx => ∃ (xs : List V) (cs : List (Int × Int)) (mm : List Int), n = mm.length ∧ σ = [some (.ref R), some (.int r), some (.ref C)] ∧ Bhd H C R xs cs (mm ++ [r]) Hx ∧ Run (m ++ [r]) cs (mm ++ [r]) ∧ NF mm,
        ⟨_, [], [], m, rfl, rfl, g1, .nil _, nfm⟩, ?_⟩
      clear g1
      rintro n σ Hx ⟨xs, cs, mm, rfl, rfl, g, run, nf⟩
      have hrl := run.len
      simp only [List.length_append, List.length_singleton] at hrl
      have zzm := run.zz zz1
      have hm : ((mm ++ [r]).map V.int).length = mm.length + 1 := by simp
      refine ⟨.ref R, rfl, R, _, rfl, .inl (SqL.of g.r), _, 3, rfl, rfl, _, rfl, ?_⟩
      by_cases h3 : 3 ≤ mm.length
      · rw [show decide ((((mm ++ [r]).map V.int).length : Int) > 3) = true from decide_eq_true (by rw [hm]; omega)]
        obtain ⟨pre, b, c, d, rfl⟩ := last3 h3
        have hml : (pre ++ [b, c, d]).length = pre.length + 3 := by simp
        have el : pre ++ [b, c, d] ++ [r] = pre ++ b :: c :: d :: r :: [] := by simp
        have q0 : (pre ++ [b, c, d] ++ [r])[pre.length]? = some b := by rw [el, List.getElem?_append_right (by omega)]; simp
        have q1 : (pre ++ [b, c, d] ++ [r])[pre.length + 1]? = some c := by rw [el, List.getElem?_append_right (by omega)]; simp
        have q2 : (pre ++ [b, c, d] ++ [r])[pre.length + 2]? = some d := by rw [el, List.getElem?_append_right (by omega)]; simp
        have q3 : (pre ++ [b, c, d] ++ [r])[pre.length + 3]? = some r := by rw [el, List.getElem?_append_right (by omega)]; simp
        refine iteT ⟨.ref R, rfl, .ref R, rfl, R, _, rfl, .inl (SqL.of g.r), _, 3, rfl, rfl, R, pre ++ [b, c, d] ++ [r], pre.length, _, b, c, d, r, rfl, by rw [hm, hml]; omega, .inl (SqL.of g.r), zzm, q0, q1, q2, q3, fun H2 s2 => ⟨_, rfl, ?_⟩⟩
        have g2 := g.same s2
        rw [taken_get q0 q1 q2 q3]
        by_cases tk : Taken b c d r
        · rw [decide_eq_true tk]
          refine iteT ⟨fun σ Hx => ∃ m', m' < (pre ++ [b, c, d]).length ∧ ∃ (xs : List V) (cs : List (Int × Int)) (mm : List Int), m' = mm.length ∧ σ = [some (.ref R), some (.int r), some (.ref C)] ∧ Bhd H C R xs cs (mm ++ [r]) Hx ∧ Run (m ++ [r]) cs (mm ++ [r]) ∧ NF mm, fun _ _ z => z, ?_⟩
          have eR : H2 R = some (.lst ((pre ++ [b]).map V.int ++ [V.int c, V.int d, V.int r])) := by
            rw [g2.r]
            simp [List.map_append]
          refine ⟨.ref C, rfl, .inl ⟨rfl, _, SqL.of g2.c⟩, .ref R, rfl, 3, rfl, R, _, -3, .int c, rfl, rfl, SqL.of eR, atI_last3 _ _ _ _, .ref R, rfl, 2, rfl, R, _, -2, .int d, rfl, rfl, SqL.of eR, atI_last2' _ _ _ _, c, d, rfl, fun q nq => ?_⟩
          have s3 := same_new (o := .tup [.int (rg c d).1, .int (rg c d).2]) nq
          have g3 := (g2.same s3).cyc nC0 nCR (upd_same (H := H2) (a := q) (o := .tup [.int (rg c d).1, .int (rg c d).2]))
          have hxl : xs.length ≤ 2500 := by rw [g2.pa.length]; omega
          refine ⟨C, xs, .ref q, rfl, rfl, s3 _ _ g2.c, small3000 (by omega), ?_⟩
          have eR3 : (upd (upd H2 q (.tup [.int (rg c d).1, .int (rg c d).2])) C (.lst (xs ++ [.ref q]))) R = some (.lst ((pre ++ [b]).map V.int ++ [V.int c, V.int d, V.int r])) := by
            rw [upd_ne nCR.symm]
            exact s3 _ _ eR
          refine ⟨.ref R, rfl, 3, rfl, _, rfl, 1, rfl, _, rfl, rfl, rfl, R, (pre ++ [b]).map V.int, .int c, .int d, .int r, rfl, eR3, ?_⟩
          have g4 := g3.rest nCR (pre ++ [b] ++ [r])
          have e5 : (pre ++ [b]).map V.int ++ [V.int r] = (pre ++ [b] ++ [r]).map V.int := by simp [List.map_append]
          rw [e5]
          refine ⟨(pre ++ [b]).length, by simp, _, _, pre ++ [b], rfl, rfl, g4, ?_, nf_prefix (l := [c, d]) (by simpa using nf)⟩
          refine run.snoc ?_
          rw [el, List.append_assoc]
          exact (Step.here tk).prefix pre
        · rw [decide_eq_false tk]
          refine iteF ?_
          refine ⟨.ref C, rfl, hq _ C xs cs _ g2.ch nC0 g2.c g2.pa g2.r run (nf_push nf fun pre' b' c' d' e => ?_)⟩
          have e6 : pre' ++ [b', c', d', r] = (pre' ++ [b', c', d']) ++ [r] := by simp
          rw [e6] at e
          obtain ⟨e7, _⟩ := List.append_inj' e rfl
          obtain ⟨_, e8⟩ := List.append_inj' e7 rfl
          injection e8 with h1 h2
          injection h2 with h2 h3
          injection h3 with h3 _
          subst h1 h2 h3
          exact tk
      · rw [show decide ((((mm ++ [r]).map V.int).length : Int) > 3) = false from decide_eq_false (by rw [hm]; omega)]
        refine iteF ?_
        refine iteF ?_
        refine ⟨.ref C, rfl, hq _ C xs cs _ g.ch nC0 g.c g.pa g.r run (nf_push nf fun pre' b' c' d' e => ?_)⟩
        have : (mm ++ [r]).length = (pre' ++ [b', c', d', r]).length := by rw [e]
        simp only [List.length_append, List.length_cons, List.length_nil] at this
        omega
    · rw [hl, if_pos rfl] at hm1
      obtain ⟨u, hu⟩ : ∃ u, rs0 = m ++ [u] := by
        rcases List.eq_nil_or_concat rs0 with h | ⟨m1, d, h⟩
        · rw [h] at hl; cases hl
        · refine ⟨d, ?_⟩
          rw [hm1, h]
          simp
      have eR2 : H R = some (.lst (m.map V.int ++ [V.int u])) := by rw [eR, hu]; simp
      refine iteT ⟨.ref R, rfl, .inl ⟨rfl, _, SqL.of eR⟩, R, m.map V.int ++ [V.int u], .int u, rfl, rfl, eR2, by simp, ?_⟩
      refine ⟨.ref R, rfl, .inl ⟨rfl, _, SqL.of upd_same⟩, .int r, rfl, R, m.map V.int, _, rfl, rfl, by rw [upd_same, List.dropLast_concat], by rw [List.length_map]; exact small3000 (by omega), ?_⟩
      rw [upd_upd, e1]
      refine ⟨Nat.zero_le _, fun C nC => ?_⟩
      obtain ⟨g1, nCR, nC0⟩ := start C nC
      generalize upd (upd H R (.lst ((m ++ [r]).map V.int))) C (.lst []) = Hs at g1 ⊢
      refine ⟨fun n σ Hx => ∃ (xs : List V) (cs : List (Int × Int)) (mm : List Int), n = mm.length ∧ σ = [some (.ref R), some (.int r), some (.ref C)] ∧ Bhd H C R xs cs (mm ++ [r]) Hx ∧ Run (m ++ [r]) cs (mm ++ [r]) ∧ NF mm,
        ⟨_, [], [], m, rfl, rfl, g1, .nil _, nfm⟩, ?_⟩
      clear g1
      rintro n σ Hx ⟨xs, cs, mm, rfl, rfl, g, run, nf⟩
      have hrl := run.len
      simp only [List.length_append, List.length_singleton] at hrl
      have zzm := run.zz zz1
      have hm : ((mm ++ [r]).map V.int).length = mm.length + 1 := by simp
      refine ⟨.ref R, rfl, R, _, rfl, .inl (SqL.of g.r), _, 3, rfl, rfl, _, rfl, ?_⟩
      by_cases h3 : 3 ≤ mm.length
      · rw [show decide ((((mm ++ [r]).map V.int).length : Int) > 3) = true from decide_eq_true (by rw [hm]; omega)]
        obtain ⟨pre, b, c, d, rfl⟩ := last3 h3
        have hml : (pre ++ [b, c, d]).length = pre.length + 3 := by simp
        have el : pre ++ [b, c, d] ++ [r] = pre ++ b :: c :: d :: r :: [] := by simp
        have q0 : (pre ++ [b, c, d] ++ [r])[pre.length]? = some b := by rw [el, List.getElem?_append_right (by omega)]; simp
        have q1 : (pre ++ [b, c, d] ++ [r])[pre.length + 1]? = some c := by rw [el, List.getElem?_append_right (by omega)]; simp
        have q2 : (pre ++ [b, c, d] ++ [r])[pre.length + 2]? = some d := by rw [el, List.getElem?_append_right (by omega)]; simp
        have q3 : (pre ++ [b, c, d] ++ [r])[pre.length + 3]? = some r := by rw [el, List.getElem?_append_right (by omega)]; simp
        refine iteT ⟨.ref R, rfl, .ref R, rfl, R, _, rfl, .inl (SqL.of g.r), _, 3, rfl, rfl, R, pre ++ [b, c, d] ++ [r], pre.length, _, b, c, d, r, rfl, by rw [hm, hml]; omega, .inl (SqL.of g.r), zzm, q0, q1, q2, q3, fun H2 s2 => ⟨_, rfl, ?_⟩⟩
        have g2 := g.same s2
        rw [taken_get q0 q1 q2 q3]
        by_cases tk : Taken b c d r
        · rw [decide_eq_true tk]
          refine iteT ⟨fun σ Hx => ∃ m', m' < (pre ++ [b, c, d]).length ∧ ∃ (xs : List V) (cs : List (Int × Int)) (mm : List Int), m' = mm.length ∧ σ = [some (.ref R), some (.int r), some (.ref C)] ∧ Bhd H C R xs cs (mm ++ [r]) Hx ∧ Run (m ++ [r]) cs (mm ++ [r]) ∧ NF mm, fun _ _ z => z, ?_⟩
          have eR : H2 R = some (.lst ((pre ++ [b]).map V.int ++ [V.int c, V.int d, V.int r])) := by
            rw [g2.r]
            simp [List.map_append]
          refine ⟨.ref C, rfl, .inl ⟨rfl, _, SqL.of g2.c⟩, .ref R, rfl, 3, rfl, R, _, -3, .int c, rfl, rfl, SqL.of eR, atI_last3 _ _ _ _, .ref R, rfl, 2, rfl, R, _, -2, .int d, rfl, rfl, SqL.of eR, atI_last2' _ _ _ _, c, d, rfl, fun q nq => ?_⟩
          have s3 := same_new (o := .tup [.int (rg c d).1, .int (rg c d).2]) nq
          have g3 := (g2.same s3).cyc nC0 nCR (upd_same (H := H2) (a := q) (o := .tup [.int (rg c d).1, .int (rg c d).2]))
          have hxl : xs.length ≤ 2500 := by rw [g2.pa.length]; omega
          refine ⟨C, xs, .ref q, rfl, rfl, s3 _ _ g2.c, small3000 (by omega), ?_⟩
          have eR3 : (upd (upd H2 q (.tup [.int (rg c d).1, .int (rg c d).2])) C (.lst (xs ++ [.ref q]))) R = some (.lst ((pre ++ [b]).map V.int ++ [V.int c, V.int d, V.int r])) := by
            rw [upd_ne nCR.symm]
            exact s3 _ _ eR
          refine ⟨.ref R, rfl, 3, rfl, _, rfl, 1, rfl, _, rfl, rfl, rfl, R, (pre ++ [b]).map V.int, .int c, .int d, .int r, rfl, eR3, ?_⟩
          have g4 := g3.rest nCR (pre ++ [b] ++ [r])
          have e5 : (pre ++ [b]).map V.int ++ [V.int r] = (pre ++ [b] ++ [r]).map V.int := by simp [List.map_append]
          rw [e5]
          refine ⟨(pre ++ [b]).length, by simp, _, _, pre ++ [b], rfl, rfl, g4, ?_, nf_prefix (l := [c, d]) (by simpa using nf)⟩
          refine run.snoc ?_
          rw [el, List.append_assoc]
          exact (Step.here tk).prefix pre
        · rw [decide_eq_false tk]
          refine iteF ?_
          refine ⟨.ref C, rfl, hq _ C xs cs _ g2.ch nC0 g2.c g2.pa g2.r run (nf_push nf fun pre' b' c' d' e => ?_)⟩
          have e6 : pre' ++ [b', c', d', r] = (pre' ++ [b', c', d']) ++ [r] := by simp
          rw [e6] at e
          obtain ⟨e7, _⟩ := List.append_inj' e rfl
          obtain ⟨_, e8⟩ := List.append_inj' e7 rfl
          injection e8 with h1 h2
          injection h2 with h2 h3
          injection h3 with h3 _
          subst h1 h2 h3
          exact tk
      · rw [show decide ((((mm ++ [r]).map V.int).length : Int) > 3) = false from decide_eq_false (by rw [hm]; omega)]
        refine iteF ?_
        refine iteF ?_
        refine ⟨.ref C, rfl, hq _ C xs cs _ g.ch nC0 g.c g.pa g.r run (nf_push nf fun pre' b' c' d' e => ?_)⟩
        have : (mm ++ [r]).length = (pre' ++ [b', c', d', r]).length := by rw [e]
        simp only [List.length_append, List.length_cons, List.length_nil] at this
        omega
/-- what _counted holds -/
structure Stk (H : Hp) (C R : Addr) (xs : List V) (cs : List (Int × Int)) (rs : List Int) (Hx : Hp) : Prop where
  sm : Same H Hx
  c : Hx C = some (.lst xs)
  pa : PairsAt Hx xs cs
  r : Hx R = some (.lst (rs.map V.int))
def spCoL (K : PySem.W.Frag) : Sp := fun vs H Q _ => ∃ (a : Addr) (ns : List Int), vs = [.ref a] ∧ SqL K H a (ns.map V.int) ∧ ns.length ≤ 2500 ∧
  ∀ H' p c r xs cs rs, Same H H' → H p = none → H' p = some (.tup [.ref c, .ref r]) → H' c = some (.lst xs) → PairsAt H' xs cs → H' r = some (.lst (rs.map V.int)) → Run (tp ns) cs rs → NF rs → Q (.ref p) H'
def spCoT (K : PySem.W.Frag) : Sp := fun vs H Q _ => ∃ (a : Addr) (ns : List Int), vs = [.ref a] ∧ SqT K H a (ns.map V.int) ∧ ns.length ≤ 2500 ∧
  ∀ H' p c r xs cs rs, Same H H' → H p = none → H' p = some (.tup [.ref c, .ref r]) → H' c = some (.lst xs) → PairsAt H' xs cs → H' r = some (.lst (rs.map V.int)) → Run (tp ns) cs rs → NF rs → Q (.ref p) H'
theorem ok_Col {f fB : Addr} {fd fdB : FuncData} {k : Nat} (F : Fun K "_counted" "_counted" sCo f fd)
    (GB : FnOk P w K mg base CX0 (k + 3) fB fdB ["rest", "reading"] spPB) (gB : mg "put_behind" = some (.ref fB)) (kB : PySem.W.keepIn K (.ref fB) = true) (bB : Binds K fdB ["rest", "reading"] []) :
    FnOk P w K mg base CX0 (k + 4) f fd ["load"] (spCoL K) := by
  refine F.ok scCo (fun vs H Q E h => ?_) (fun cdv A outer s H vs Q E hr h => ?_)
  · obtain ⟨a, ns, rfl, _⟩ := h
    rfl
  · obtain ⟨a, ns, rfl, hS, hlen, hq⟩ := h
    refine ⟨_, pss_cons (ps_par (i := 1) (j := 2) (by rfl) scCo.nd rfl rfl (by decide) rfl rfl (pa_cons (pe_lst pa_nil) (pa_cons (pe_lst pa_nil) pa_nil)) (by rfl))
      (pss_cons (ps_for PassesOwn.never rfl (pi_list (pv 0)) (pg_name (i := 3) scCo.nd rfl (.inl rfl))
        (pss_one (ps_expr (pe_bm PySem.F.plainAttrs_list PySem.F.slot_list_extend PySem.F.type_list_extend mt_extend (pv 1) (pa_cons (pe_call GB hr (by rfl) gB kB bB .nil pass0 (pa_cons (pv 2) (pa_cons (pv 3) pa_nil))) pa_nil)))))
      (pss_one (ps_ret (pe_tup (pa_cons (pv 1) (pa_cons (pv 2) pa_nil)))))), ?_⟩
    refine ⟨Nat.zero_le _, fun C nC => ⟨Nat.zero_le _, fun R nR => ⟨.ref C, .ref R, rfl, ?_⟩⟩⟩
    have nCR : C ≠ R := fun z => by rw [← z, upd_same] at nR; cases nR
    have nR0 : H R = none := (same_new nC).free nR
    have sm0 : Same H (upd (upd H C (.lst [])) R (.lst [])) := (same_new nC).trans (same_new nR)
    have eC0 : (upd (upd H C (.lst [])) R (.lst [])) C = some (.lst []) := by rw [upd_ne nCR, upd_same]
    have eR0 : (upd (upd H C (.lst [])) R (.lst [])) R = some (.lst []) := upd_same
    generalize upd (upd H C (.lst [])) R (.lst []) = H0 at sm0 eC0 eR0 ⊢
    have hts : ∀ i, tp (ns.take i) = tp (ns.take i) := fun _ => rfl
    refine ⟨.ref a, rfl, a, rfl, ⟨_, sm0.seq hS⟩, for_list (K := K) (a := a) (xs := ns.map V.int) (fun i σ Hx => ∃ (xs : List V) (cs : List (Int × Int)) (rs : List Int) (r3 : Option V), σ = [some (.ref a), some (.ref C), some (.ref R), r3] ∧
      Stk H C R xs cs rs Hx ∧ Run (tp (ns.take i)) cs rs ∧ NF rs) ?_ ?_ ?_ ?_⟩
    · exact ⟨[], [], [], none, rfl, ⟨sm0, eC0, trivial, eR0⟩, .nil _, fun c q s => by have := s.len; simp at this⟩
    · rintro i σ Hx _ ⟨xs, cs, rs, r3, rfl, g, _⟩
      exact g.sm.seq hS
    · rintro i x σ Hx hx ⟨xs, cs, rs, r3, rfl, g, run, nf⟩
      obtain ⟨r, hr2, rfl⟩ := int_at hx
      have hin : i < ns.length := (List.getElem?_eq_some_iff.mp hr2).1
      have hrl := run.len
      have htl := tp_len (ns.take i)
      rw [List.length_take] at htl
      have zz := run.zz (tp_zz (ns.take i))
      refine ⟨.ref C, rfl, .inl ⟨rfl, _, SqL.of g.c⟩, .ref R, rfl, .int r, rfl, R, rs, r, rfl, g.r, zz, nf, by omega, fun H2 p ys cs2 rs2 ch np ep pa2 eR2 run2 nf2 => ?_⟩
      have eC2 : H2 C = some (.lst xs) := ch _ _ nCR g.c
      have npC : p ≠ C := fun z => by rw [z, g.c] at np; cases np
      have npR : p ≠ R := fun z => by rw [z, g.r] at np; cases np
      have sm2 : Same H H2 := fun b o e => ch b o (ne_of_none e nR0) (g.sm b o e)
      have run3 := stream hr2 run run2
      have hrl3 := run3.len
      have htl3 := tp_len (ns.take (i + 1))
      rw [List.length_take] at htl3
      have hxl := g.pa.length
      have hyl := pa2.length
      rw [List.length_append] at hrl3
      refine ⟨C, p, xs, ys, rfl, rfl, eC2, ep, Nat.le_of_lt (small3000 (by omega)), _, cs ++ cs2, rs2, _, rfl, ⟨same_again nC sm2, upd_same, ?_, by rw [upd_ne nCR.symm]; exact eR2⟩, run3, nf2⟩
      exact PairsAt.append (pairs_upd eC2 (ch_pairs ch g.r g.pa)) (pairs_upd eC2 pa2)
    · rintro σ Hx ⟨xs, cs, rs, r3, rfl, g, run, nf⟩
      have et2 : ns.take (ns.map V.int).length = ns := by rw [List.length_map]; exact List.take_length
      rw [et2] at run
      refine ⟨.ref C, rfl, .ref R, rfl, by show 2 ≤ sizeLine; decide, fun p np => ?_⟩
      have sp := same_new (o := .tup [.ref C, .ref R]) np
      exact hq _ p C R xs cs rs (g.sm.trans sp) (g.sm.free np) upd_same (sp _ _ g.c) (g.pa.same sp) (sp _ _ g.r) run nf
theorem ok_Cot {f fB : Addr} {fd fdB : FuncData} {k : Nat} (F : Fun K "_counted" "_counted" sCo f fd)
    (GB : FnOk P w K mg base CX0 (k + 3) fB fdB ["rest", "reading"] spPB) (gB : mg "put_behind" = some (.ref fB)) (kB : PySem.W.keepIn K (.ref fB) = true) (bB : Binds K fdB ["rest", "reading"] []) :
    FnOk P w K mg base CX0 (k + 4) f fd ["load"] (spCoT K) := by
  refine F.ok scCo (fun vs H Q E h => ?_) (fun cdv A outer s H vs Q E hr h => ?_)
  · obtain ⟨a, ns, rfl, _⟩ := h
    rfl
  · obtain ⟨a, ns, rfl, hS, hlen, hq⟩ := h
    refine ⟨_, pss_cons (ps_par (i := 1) (j := 2) (by rfl) scCo.nd rfl rfl (by decide) rfl rfl (pa_cons (pe_lst pa_nil) (pa_cons (pe_lst pa_nil) pa_nil)) (by rfl))
      (pss_cons (ps_for PassesOwn.never rfl (pi_tup (pv 0)) (pg_name (i := 3) scCo.nd rfl (.inl rfl))
        (pss_one (ps_expr (pe_bm PySem.F.plainAttrs_list PySem.F.slot_list_extend PySem.F.type_list_extend mt_extend (pv 1) (pa_cons (pe_call GB hr (by rfl) gB kB bB .nil pass0 (pa_cons (pv 2) (pa_cons (pv 3) pa_nil))) pa_nil)))))
      (pss_one (ps_ret (pe_tup (pa_cons (pv 1) (pa_cons (pv 2) pa_nil)))))), ?_⟩
    refine ⟨Nat.zero_le _, fun C nC => ⟨Nat.zero_le _, fun R nR => ⟨.ref C, .ref R, rfl, ?_⟩⟩⟩
    have nCR : C ≠ R := fun z => by rw [← z, upd_same] at nR; cases nR
    have nR0 : H R = none := (same_new nC).free nR
    have sm0 : Same H (upd (upd H C (.lst [])) R (.lst [])) := (same_new nC).trans (same_new nR)
    have eC0 : (upd (upd H C (.lst [])) R (.lst [])) C = some (.lst []) := by rw [upd_ne nCR, upd_same]
    have eR0 : (upd (upd H C (.lst [])) R (.lst [])) R = some (.lst []) := upd_same
    generalize upd (upd H C (.lst [])) R (.lst []) = H0 at sm0 eC0 eR0 ⊢
    have hts : ∀ i, tp (ns.take i) = tp (ns.take i) := fun _ => rfl
    refine ⟨.ref a, rfl, a, rfl, ⟨_, SqT_same sm0 hS⟩, for_tup (K := K) (a := a) (xs := ns.map V.int) (fun i σ Hx => ∃ (xs : List V) (cs : List (Int × Int)) (rs : List Int) (r3 : Option V), σ = [some (.ref a), some (.ref C), some (.ref R), r3] ∧
      Stk H C R xs cs rs Hx ∧ Run (tp (ns.take i)) cs rs ∧ NF rs) ?_ ?_ ?_ ?_⟩
    · exact ⟨[], [], [], none, rfl, ⟨sm0, eC0, trivial, eR0⟩, .nil _, fun c q s => by have := s.len; simp at this⟩
    · rintro i σ Hx _ ⟨xs, cs, rs, r3, rfl, g, _⟩
      exact SqT_same g.sm hS
    · rintro i x σ Hx hx ⟨xs, cs, rs, r3, rfl, g, run, nf⟩
      obtain ⟨r, hr2, rfl⟩ := int_at hx
      have hin : i < ns.length := (List.getElem?_eq_some_iff.mp hr2).1
      have hrl := run.len
      have htl := tp_len (ns.take i)
      rw [List.length_take] at htl
      have zz := run.zz (tp_zz (ns.take i))
      refine ⟨.ref C, rfl, .inl ⟨rfl, _, SqL.of g.c⟩, .ref R, rfl, .int r, rfl, R, rs, r, rfl, g.r, zz, nf, by omega, fun H2 p ys cs2 rs2 ch np ep pa2 eR2 run2 nf2 => ?_⟩
      have eC2 : H2 C = some (.lst xs) := ch _ _ nCR g.c
      have npC : p ≠ C := fun z => by rw [z, g.c] at np; cases np
      have npR : p ≠ R := fun z => by rw [z, g.r] at np; cases np
      have sm2 : Same H H2 := fun b o e => ch b o (ne_of_none e nR0) (g.sm b o e)
      have run3 := stream hr2 run run2
      have hrl3 := run3.len
      have htl3 := tp_len (ns.take (i + 1))
      rw [List.length_take] at htl3
      have hxl := g.pa.length
      have hyl := pa2.length
      rw [List.length_append] at hrl3
      refine ⟨C, p, xs, ys, rfl, rfl, eC2, ep, Nat.le_of_lt (small3000 (by omega)), _, cs ++ cs2, rs2, _, rfl, ⟨same_again nC sm2, upd_same, ?_, by rw [upd_ne nCR.symm]; exact eR2⟩, run3, nf2⟩
      exact PairsAt.append (pairs_upd eC2 (ch_pairs ch g.r g.pa)) (pairs_upd eC2 pa2)
    · rintro σ Hx ⟨xs, cs, rs, r3, rfl, g, run, nf⟩
      have et2 : ns.take (ns.map V.int).length = ns := by rw [List.length_map]; exact List.take_length
      rw [et2] at run
      refine ⟨.ref C, rfl, .ref R, rfl, by show 2 ≤ sizeLine; decide, fun p np => ?_⟩
      have sp := same_new (o := .tup [.ref C, .ref R]) np
      exact hq _ p C R xs cs rs (g.sm.trans sp) (g.sm.free np) upd_same (sp _ _ g.c) (g.pa.same sp) (sp _ _ g.r) run nf
def spCo (K : PySem.W.Frag) : Sp := fun vs H Q _ => ∃ (a : Addr) (ns : List Int), vs = [.ref a] ∧ Sq K H a (ns.map V.int) ∧ ns.length ≤ 2500 ∧
  ∀ H' p c r xs cs rs, Same H H' → H p = none → H' p = some (.tup [.ref c, .ref r]) → H' c = some (.lst xs) → PairsAt H' xs cs → H' r = some (.lst (rs.map V.int)) → Run (tp ns) cs rs → NF rs → Q (.ref p) H'
theorem ok_Co {f fB : Addr} {fd fdB : FuncData} {k : Nat} (F : Fun K "_counted" "_counted" sCo f fd)
    (GB : FnOk P w K mg base CX0 (k + 3) fB fdB ["rest", "reading"] spPB) (gB : mg "put_behind" = some (.ref fB)) (kB : PySem.W.keepIn K (.ref fB) = true) (bB : Binds K fdB ["rest", "reading"] []) :
    FnOk P w K mg base CX0 (k + 4) f fd ["load"] (spCo K) :=
  (both (ok_Col F GB gB kB bB) (ok_Cot F GB gB kB bB)).imp fun vs H Q E ⟨a, ns, e, hs, hl, q⟩ => hs.elim (fun z => .inl ⟨a, ns, e, z, hl, q⟩) (fun z => .inr ⟨a, ns, e, z, hl, q⟩)
end
end QG

/-! counts -/
namespace QH
open PySem PySem.Spec PyProof.Rows L2 KA PH PM PA PB PC RM RN QE QF QG
abbrev sInit : Stmt := inClass sClass 0
abbrev sOf : Stmt := inClass sClass 1
abbrev sPC : Stmt := inClass sClass 4
abbrev sPR : Stmt := inClass sClass 5
abbrev sPH : Stmt := inClass sClass 6
theorem scInit : FnScope ["self", "cycles", "rest"] ["self", "cycles", "rest"] (defScope sInit) := ⟨rfl, rfl, rfl, by decide +kernel, rfl, by decide +kernel, by decide +kernel⟩
theorem scOf : FnScope ["cls", "load", "cycles", "rest"] ["cls", "load"] (defScope sOf) := ⟨rfl, rfl, rfl, by decide +kernel, rfl, by decide +kernel, by decide +kernel⟩
theorem scPC : FnScope ["self"] ["self"] (defScope sPC) := ⟨rfl, rfl, rfl, by decide +kernel, rfl, by decide +kernel, by decide +kernel⟩
theorem scPR : FnScope ["self"] ["self"] (defScope sPR) := ⟨rfl, rfl, rfl, by decide +kernel, rfl, by decide +kernel, by decide +kernel⟩
theorem scPH : FnScope ["self"] ["self"] (defScope sPH) := ⟨rfl, rfl, rfl, by decide +kernel, rfl, by decide +kernel, by decide +kernel⟩
/-! ### sorted pairs -/
/-- the pair at a ref -/
def kOf (H : Hp) : V → Int × Int
  | .ref p => match H p with
    | some (.tup [.int a, .int b]) => (a, b)
    | _ => (0, 0)
  | _ => (0, 0)
theorem kOf_at {H : Hp} {p : Addr} {r : Int × Int} (h : H p = some (.tup [.int r.1, .int r.2])) : kOf H (.ref p) = r := by
  show (match H p with | some (.tup [.int a, .int b]) => (a, b) | _ => (0, 0)) = r
  rw [h]
theorem pairs_key {H : Hp} : ∀ {xs : List V} {rs : List (Int × Int)}, PairsAt H xs rs → rs = xs.map (kOf H) ∧ ∀ x ∈ xs, ∃ t, x = V.ref t ∧ H t = some (.tup [.int (kOf H x).1, .int (kOf H x).2])
  | [], [], _ => ⟨rfl, fun _ z => (List.not_mem_nil z).elim⟩
  | x :: xs, r :: rs, ⟨⟨p, h1, h2⟩, h3⟩ => by
    obtain ⟨e, all⟩ := pairs_key h3
    subst h1
    have k := kOf_at h2
    refine ⟨by rw [List.map_cons, k, ← e], fun x hx => ?_⟩
    rcases List.mem_cons.mp hx with z | z
    · exact ⟨p, z, by rw [z, k]; exact h2⟩
    · exact all x z
  | [], _ :: _, h => h.elim
  | _ :: _, [], h => h.elim
theorem pairs_of {H : Hp} : ∀ {xs : List V}, (∀ x ∈ xs, ∃ t, x = V.ref t ∧ H t = some (.tup [.int (kOf H x).1, .int (kOf H x).2])) → PairsAt H xs (xs.map (kOf H))
  | [], _ => trivial
  | x :: xs, h => ⟨h x List.mem_cons_self, pairs_of fun y hy => h y (List.mem_cons_of_mem _ hy)⟩
theorem sorted_out {H : Hp} {xs ys : List V} {rs : List (Int × Int)} (pa : PairsAt H xs rs) (h1 : SrtO.Srtd (ltP (kOf H)) ys) (h2 : SrtO.Stb (ltP (kOf H)) ys xs) : ∃ ds, PairsAt H ys ds ∧ ds.Perm rs ∧ ds.Pairwise Le := by
  obtain ⟨e, all⟩ := pairs_key pa
  refine ⟨ys.map (kOf H), pairs_of fun y hy => all y (h2.perm.mem_iff.mp hy), by rw [e]; exact h2.perm.map _, ?_⟩
  rw [List.pairwise_map]
  refine h1.imp fun {x y} h => ?_
  have := SrtO.lexB_no.mp h
  show (kOf H x).1 < (kOf H y).1 ∨ ((kOf H x).1 = (kOf H y).1 ∧ (kOf H x).2 ≤ (kOf H y).2)
  omega
/-- cls(..), cls a parameter that holds a class -/
theorem pe_makeL {X : Cx} {CX : CXT} {k i : Nat} {C f : Addr} {fd : FuncData} {ps : List Str} {sp : Sp} {dvs : List V} {ds : List Value} {E : XK} {x : Str} {p pos : Pos} {e : Expr} {es : List Expr} {t : TA}
    (M : Mk X.K C f) (F : FnOk X.prog X.w X.K X.mg X.base CX k f fd ps sp) (hr : Room (k + 1) X.A) (hN : X.N[i]? = some x) (hv : Vis X.env.scope x) (hb : Binds X.K fd ps ds) (hd : Vals dvs ds) (hx : Passes CX X E) (ha : PA X (e :: es) t)
    (hdb : (x == ("__debug__" : Str)) = false := by decide) (hcd : (x == ("__classdict__" : Str)) = false := by decide)
    (he : starEach (e :: es) X.env = (false, eval e X.env) :: starEach es X.env := by rfl) (hpl : (backTo pos (starEach es X.env)).any (·.1) = false := by rfl) :
    PE X (.Call (.Name x p) (e :: es) [] pos) (fun σ H Q => σ[i]? = some (some (.ref C)) ∧ tMake C sp dvs E t σ H Q) := by
  refine ⟨fun pins s σ H Q I ⟨hs, ht⟩ => ?_⟩
  refine wpAny_Call_Name_kw (thn ((pe_var (pos := p) hN hv hdb hcd).run pins s σ H (fun v H1 => v = .ref C ∧ H1 = H) I ⟨.ref C, hs, rfl, rfl⟩) fun u s1 ⟨v, H1, I1, r1, e1, e2⟩ => ?_)
  subst e1 e2
  cases r1
  exact PySem.W.callWith_K (h₀ := X.base) I.ok.mod.kin M.kp (thn (ha.run pos pins s1 σ _ _ I1 ht) fun us s2 ⟨vs, H2, I2, r, q⟩ => ⟨I2.kIn, run_make M F hr hb hd hx I2 r q⟩) he hpl
/-- a count stands at x -/
def CountAt (H : Hp) (C x : Addr) (ds : List (Int × Int)) (rs : List Int) : Prop := ∃ (dx t1 t2 : Addr) (ys : List V), H x = some (.ins C dx [("_cycles", .ref t1), ("_rest", .ref t2)]) ∧ H t1 = some (.tup ys) ∧ PairsAt H ys ds ∧ H t2 = some (.tup (rs.map V.int))
theorem CountAt.same {H H' : Hp} {C x : Addr} {ds : List (Int × Int)} {rs : List Int} (h : CountAt H C x ds rs) (s : Same H H') : CountAt H' C x ds rs := by
  obtain ⟨dx, t1, t2, ys, h1, h2, h3, h4⟩ := h
  exact ⟨dx, t1, t2, ys, s _ _ h1, s _ _ h2, h3.same s, s _ _ h4⟩
/-- what of the text the class has -/
structure Cnt (K : PySem.W.Frag) (C : Addr) : Prop where
  cl : Cls K C
  nC : NoAttr K C "_cycles"
  nR : NoAttr K C "_rest"
theorem pairs_ne {H H' : Hp} {x : Addr} (k : ∀ b o, b ≠ x → H b = some o → H' b = some o) (hx : ∀ o, H x = some o → ∃ C d fs, o = .ins C d fs) : ∀ {xs : List V} {rs : List (Int × Int)}, PairsAt H xs rs → PairsAt H' xs rs
  | [], [], _ => trivial
  | y :: xs, r :: rs, ⟨⟨p, h1, h2⟩, h3⟩ => ⟨⟨p, h1, k p _ (fun z => by
      subst z
      obtain ⟨C, d, fs, e⟩ := hx _ h2
      cases e) h2⟩, pairs_ne k hx h3⟩
  | [], _ :: _, h => h.elim
  | _ :: _, [], h => h.elim
section
variable {P : Program} {w : World} {K : PySem.W.Frag} {mg : Str → Option Value} {base : Heap} {C : Addr}
def spInit (K : PySem.W.Frag) (C : Addr) : Sp := fun vs H Q _ => ∃ (x c r dx : Addr) (xs : List V) (cs : List (Int × Int)) (rs : List Int), vs = [.ref x, .ref c, .ref r] ∧ H x = some (.ins C dx []) ∧ H c = some (.lst xs) ∧ PairsAt H xs cs ∧ H r = some (.lst (rs.map V.int)) ∧
  ∀ H' ds, (∀ b o, b ≠ x → H b = some o → H' b = some o) → CountAt H' C x ds rs → ds.Perm cs → ds.Pairwise Le → Q .non H'
theorem ok_init {f : Addr} {fd : FuncData} {k : Nat} (F : Fun K "__init__" "Count.__init__" sInit f fd) (T : Cnt K C) (ms : mg "sorted" = none) (mt : mg "tuple" = none) : FnOk P w K mg base CX0 (k + 1) f fd ["self", "cycles", "rest"] (spInit K C) := by
  refine F.ok scInit (fun vs H Q E h => ?_) (fun cdv A outer s H vs Q E hr h => ?_)
  · obtain ⟨x, c, r, dx, xs, cs, rs, rfl, _⟩ := h
    rfl
  · obtain ⟨x, c, r, dx, xs, cs, rs, rfl, hx, hc, pa, hrr, hq⟩ := h
    refine ⟨_, pss_cons (ps_fld (pv 0) (pe_callTy call_tuple_of (by rfl) mt (by decide +kernel) (pa_cons (pe_callB cr_sortedPO (by rfl) ms (by decide +kernel) (pa_cons (pv 1) pa_nil)) pa_nil)) rfl)
      (pss_one (ps_fld (pv 0) (pe_callTy call_tuple_of (by rfl) mt (by decide +kernel) (pa_cons (pv 2) pa_nil)) rfl)), ?_⟩
    refine ⟨.ref c, rfl, c, xs, kOf H, rfl, SqL.of hc, (pairs_key pa).2, fun ys p h1 h2 np => ?_⟩
    obtain ⟨ds, pd, perm, srt⟩ := sorted_out pa h1 h2
    refine ⟨p, ys, rfl, .inl ⟨SqL.of upd_same, fun t1 nt1 => ?_⟩⟩
    have s1 : Same H (upd (upd H p (.lst ys)) t1 (.tup ys)) := (same_new np).trans (same_new nt1)
    have g1 := upd_same (H := upd H p (.lst ys)) (a := t1) (o := .tup ys)
    generalize upd (upd H p (.lst ys)) t1 (.tup ys) = H1 at s1 g1 ⊢
    have hx1 := s1 _ _ hx
    refine ⟨.ref x, rfl, x, C, dx, [], rfl, hx1, T.cl, T.nC, by decide, ?_⟩
    have nrx : r ≠ x := fun z => by rw [z, hx] at hrr; cases hrr
    have nt1x : t1 ≠ x := fun z => by rw [z, hx1] at g1; cases g1
    have hr1 : (upd H1 x (.ins C dx (putF "_cycles" (.ref t1) []))) r = some (.lst (rs.map V.int)) := by rw [upd_ne nrx]; exact s1 _ _ hrr
    refine ⟨.ref r, rfl, r, _, rfl, .inl ⟨SqL.of hr1, fun t2 nt2 => ?_⟩⟩
    have nt2x : t2 ≠ x := fun z => by rw [z, upd_same] at nt2; cases nt2
    have hx2 : (upd (upd H1 x (.ins C dx (putF "_cycles" (.ref t1) []))) t2 (.tup (rs.map V.int))) x = some (.ins C dx [("_cycles", .ref t1)]) := by rw [upd_ne nt2x.symm, upd_same]; rfl
    have n12 : t1 ≠ t2 := fun z => by rw [← z, upd_ne nt1x, g1] at nt2; cases nt2
    refine ⟨.ref x, rfl, x, C, dx, [("_cycles", .ref t1)], rfl, hx2, T.cl, T.nR, by show 1 < 1000; decide, ?_⟩
    have keep : ∀ b o, b ≠ x → H b = some o → (upd (upd (upd H1 x (.ins C dx (putF "_cycles" (.ref t1) []))) t2 (.tup (rs.map V.int))) x (.ins C dx (putF "_rest" (.ref t2) [("_cycles", .ref t1)]))) b = some o := fun b o nb e => by
      have e1 := s1 _ _ e
      have nb2 : b ≠ t2 := fun z => by rw [← z, upd_ne nb, e1] at nt2; cases nt2
      rw [upd_ne nb, upd_ne nb2, upd_ne nb]
      exact e1
    refine hq _ ds keep ⟨dx, t1, t2, ys, ?_, ?_, pairs_ne keep (fun o e => by rw [hx] at e; cases e; exact ⟨_, _, _, rfl⟩) pd, ?_⟩ perm srt
    · rw [upd_same]
      rfl
    · rw [upd_ne nt1x, upd_ne n12, upd_ne nt1x]
      exact g1
    · rw [upd_ne nt2x, upd_same]
def spOf (K : PySem.W.Frag) (C : Addr) : Sp := fun vs H Q _ => ∃ (a : Addr) (ns : List Int), vs = [.ref C, .ref a] ∧ Sq K H a (ns.map V.int) ∧ ns.length ≤ 2500 ∧
  ∀ H' x cs ds rs, Same H H' → H x = none → CountAt H' C x ds rs → Run (tp ns) cs rs → NF rs → ds.Perm cs → ds.Pairwise Le → Q (.ref x) H'
theorem ok_of {f fI fO : Addr} {fd fdI fdO : FuncData} {k : Nat} (F : Fun K "of" "Count.of" sOf f fd) (M : Mk K C fI)
    (GI : FnOk P w K mg base CX0 (k + 2) fI fdI ["self", "cycles", "rest"] (spInit K C)) (bI : Binds K fdI ["self", "cycles", "rest"] [])
    (GO : FnOk P w K mg base CX0 (k + 3) fO fdO ["load"] (spCo K)) (gO : mg "_counted" = some (.ref fO)) (kO : PySem.W.keepIn K (.ref fO) = true) (bO : Binds K fdO ["load"] []) : FnOk P w K mg base CX0 (k + 4) f fd ["cls", "load"] (spOf K C) := by
  refine F.ok scOf (fun vs H Q E h => ?_) (fun cdv A outer s H vs Q E hr h => ?_)
  · obtain ⟨a, ns, rfl, _⟩ := h
    rfl
  · obtain ⟨a, ns, rfl, hS, hlen, hq⟩ := h
    refine ⟨_, pss_cons (ps_asg (pe_call GO hr (by rfl) gO kO bO .nil pass0 (pa_cons (pv 1) pa_nil)) (pg_tup rfl (pgs_cons (pg_name (i := 2) scOf.nd rfl (.inl rfl)) (pgs_cons (pg_name (i := 3) scOf.nd rfl (.inl rfl)) pgs_nil))))
      (pss_one (ps_ret (pe_makeL (i := 0) M GI hr rfl (.inl rfl) bI .nil pass0 (pa_cons (pv 2) (pa_cons (pv 3) pa_nil))))), ?_⟩
    refine ⟨.ref a, rfl, a, ns, rfl, hS, hlen, fun H1 p c r xs cs rs s1 np ep ec pa er run nf => ?_⟩
    refine ⟨p, _, rfl, SqT.of ep, rfl, .ref c, [.ref r], rfl, .ref r, [], rfl, rfl, rfl, .ref c, rfl, .ref r, rfl, fun x dx nx ndx ne => ?_⟩
    have s2 : Same H1 (upd (upd H1 dx (.own x)) x (.ins C dx [])) := (same_new ndx).trans (same_new (by rw [upd_ne ne.symm]; exact nx))
    refine ⟨x, c, r, dx, xs, cs, rs, rfl, upd_same, s2 _ _ ec, pa.same s2, s2 _ _ er, fun H' ds keep ca perm srt => ⟨rfl, ?_⟩⟩
    have s3 : Same H1 H' := fun b o e => keep b o (ne_of_none e nx) (s2 _ _ e)
    exact hq H' x cs ds rs (s1.trans s3) (s1.free nx) ca run nf perm srt
def spPC (C : Addr) : Sp := fun vs H Q _ => ∃ (x : Addr) (ds : List (Int × Int)) (rs : List Int), vs = [.ref x] ∧ CountAt H C x ds rs ∧ ∀ t ys, H t = some (.tup ys) → PairsAt H ys ds → Q (.ref t) H
def spPR (C : Addr) : Sp := fun vs H Q _ => ∃ (x : Addr) (ds : List (Int × Int)) (rs : List Int), vs = [.ref x] ∧ CountAt H C x ds rs ∧ ∀ t, H t = some (.tup (rs.map V.int)) → Q (.ref t) H
theorem ok_PC {f : Addr} {fd : FuncData} {k : Nat} (F : Fun K "cycles" "Count.cycles" sPC f fd) (T : Cnt K C) : FnOk P w K mg base CX0 (k + 1) f fd ["self"] (spPC C) := by
  refine F.ok scPC (fun vs H Q E h => ?_) (fun cdv A outer s H vs Q E hr h => ?_)
  · obtain ⟨x, ds, rs, rfl, _⟩ := h
    rfl
  · obtain ⟨x, ds, rs, rfl, ⟨dx, t1, t2, ys, h1, h2, h3, h4⟩, hq⟩ := h
    refine ⟨_, pss_one (ps_ret (pe_fld (pv 0) rfl)), ?_⟩
    exact ⟨.ref x, rfl, x, C, dx, _, .ref t1, rfl, h1, T.cl, T.nC, rfl, hq t1 ys h2 h3⟩
theorem ok_PR {f : Addr} {fd : FuncData} {k : Nat} (F : Fun K "rest" "Count.rest" sPR f fd) (T : Cnt K C) : FnOk P w K mg base CX0 (k + 1) f fd ["self"] (spPR C) := by
  refine F.ok scPR (fun vs H Q E h => ?_) (fun cdv A outer s H vs Q E hr h => ?_)
  · obtain ⟨x, ds, rs, rfl, _⟩ := h
    rfl
  · obtain ⟨x, ds, rs, rfl, ⟨dx, t1, t2, ys, h1, h2, h3, h4⟩, hq⟩ := h
    refine ⟨_, pss_one (ps_ret (pe_fld (pv 0) rfl)), ?_⟩
    exact ⟨.ref x, rfl, x, C, dx, _, .ref t2, rfl, h1, T.cl, T.nR, rfl, hq t2 h4⟩
def spPH (C : Addr) : Sp := fun vs H Q _ => ∃ (x : Addr) (ds : List (Int × Int)) (rs : List Int), vs = [.ref x] ∧ CountAt H C x ds rs ∧ ds.length ≤ 2500 ∧ rs.length ≤ 2500 ∧ ZZ rs ∧ ∀ H' t ys es, Same H H' → H' t = some (.tup ys) → PairsAt H' ys es → es.Perm (ds ++ ds ++ sw rs) → es.Pairwise Le → Q (.ref t) H'
theorem ok_PH {f fS : Addr} {fd fdS : FuncData} {k : Nat} (F : Fun K "half_cycles" "Count.half_cycles" sPH f fd) (T : Cnt K C) (GS : FnOk P w K mg base CX0 (k + 3) fS fdS ["load"] (spSw K)) (gS : mg "swings" = some (.ref fS)) (kS : PySem.W.keepIn K (.ref fS) = true) (bS : Binds K fdS ["load"] [])
    (ms : mg "sorted" = none) (mt : mg "tuple" = none) : FnOk P w K mg base CX0 (k + 4) f fd ["self"] (spPH C) := by
  refine F.ok scPH (fun vs H Q E h => ?_) (fun cdv A outer s H vs Q E hr h => ?_)
  · obtain ⟨x, ds, rs, rfl, _⟩ := h
    rfl
  · obtain ⟨x, ds, rs, rfl, ⟨dx, t1, t2, ys, h1, h2, h3, h4⟩, ld, lr, zz, hq⟩ := h
    refine ⟨_, pss_one (ps_ret (pe_callTy call_tuple_of (by rfl) mt (by decide +kernel) (pa_cons (pe_callB cr_sortedPO (by rfl) ms (by decide +kernel) (pa_cons (pe_lst (StX.pa_star (pe_fld (pv 0) rfl) (StX.pa_star (pe_fld (pv 0) rfl) (StX.pa_star (pe_call GS hr (by rfl) gS kS bS .nil pass0 (pa_cons (pe_fld (pv 0) rfl) pa_nil)) pa_nil)))) pa_nil)) pa_nil))), ?_⟩
    refine ⟨.ref x, rfl, x, C, dx, _, .ref t1, rfl, h1, T.cl, T.nC, rfl, t1, ys, rfl, .inl (SqT.of h2), .ref x, rfl, x, C, dx, _, .ref t1, rfl, h1, T.cl, T.nC, rfl, t1, ys, rfl, .inl (SqT.of h2), .ref x, rfl, x, C, dx, _, .ref t2, rfl, h1, T.cl, T.nR, rfl, t2, rs, rfl, .inr (SqT.of h4), lr, fun H1 p xs s1 np ep pa => ?_⟩
    rw [zz_tp zz] at pa
    have pall : PairsAt H1 (ys ++ (ys ++ (xs ++ []))) (ds ++ ds ++ sw rs) := by
      rw [List.append_nil, List.append_assoc]
      exact (h3.same s1).append ((h3.same s1).append pa)
    refine ⟨p, xs, rfl, .inr (SqL.of ep), ?_, fun l nl => ?_⟩
    · rw [pall.length]
      simp only [List.length_append, sw_len]
      exact Nat.le_trans (show ds.length + ds.length + (rs.length - 1) ≤ 10000 by omega) (by decide)
    have s2 := same_new (o := .lst (ys ++ (ys ++ (xs ++ [])))) nl
    have pl := pall.same s2
    refine ⟨l, _, kOf _, rfl, SqL.of upd_same, (pairs_key pl).2, fun zs q g1 g2 nq => ?_⟩
    obtain ⟨es, pe, perm, srt⟩ := sorted_out pl g1 g2
    refine ⟨q, zs, rfl, .inl ⟨SqL.of upd_same, fun t nt => ?_⟩⟩
    have s3 := (same_new (o := .lst zs) nq).trans (same_new (o := .tup zs) nt)
    exact hq _ t zs es (s1.trans (s2.trans s3)) upd_same (pe.same s3) perm srt
end
end QH

/-! tables -/
namespace XT
open PySem PySem.Spec PyProof.Rows L2 KA KD KL PH PM PA PB PC RM RN QE QF QG QH K52b
abbrev sTable : Stmt := topS 2
abbrev sTI : Stmt := inClass sTable 0
abbrev sTA : Stmt := inClass sTable 2
abbrev sTW : Stmt := inClass sTable 3
theorem scTI : FnScope ["self", "entries", "low", "high", "amount"] ["self", "entries"] (defScope sTI) := ⟨rfl, rfl, rfl, by decide +kernel, rfl, by decide +kernel, by decide +kernel⟩
theorem scTA : FnScope ["self", "low", "high", "amounts", "amount", "start", "end"] ["self", "low", "high"] (defScope sTA) := ⟨rfl, rfl, rfl, by decide +kernel, rfl, by decide +kernel, by decide +kernel⟩
theorem scTW : FnScope ["self", "ranges", "low", "high"] ["self", "ranges"] (defScope sTW) := ⟨rfl, rfl, rfl, by decide +kernel, rfl, by decide +kernel, by decide +kernel⟩
theorem pairs_get {H : Hp} : ∀ {xs : List V} {rs : List (Int × Int)} {i : Nat} {x : V}, PairsAt H xs rs → xs[i]? = some x → ∃ p r, x = .ref p ∧ rs[i]? = some r ∧ H p = some (.tup [.int r.1, .int r.2])
  | x :: xs, r :: rs, 0, y, ⟨⟨p, h1, h2⟩, _⟩, e => ⟨p, r, by rw [← h1]; exact (Option.some.inj e).symm, rfl, h2⟩
  | x :: xs, r :: rs, i + 1, y, ⟨_, h⟩, e => pairs_get (xs := xs) (rs := rs) (i := i) h e
  | [], [], _, _, _, e => by simp at e
  | [], _ :: _, _, _, h, _ => h.elim
  | _ :: _, [], _, _, h, _ => h.elim
def tri (e : Ent) : HO := .tup [.int e.1, .int e.2.1, .int e.2.2]
/-- a list's items are entries -/
def TripsAt (H : Hp) : List V → List Ent → Prop
  | [], [] => True
  | x :: xs, e :: es => (∃ p, x = .ref p ∧ H p = some (tri e)) ∧ TripsAt H xs es
  | _, _ => False
theorem TripsAt.length {H : Hp} : ∀ {xs : List V} {es : List Ent}, TripsAt H xs es → xs.length = es.length
  | [], [], _ => rfl
  | _ :: _, _ :: _, h => by simp [h.2.length]
  | [], _ :: _, h => h.elim
  | _ :: _, [], h => h.elim
theorem TripsAt.get {H : Hp} : ∀ {xs : List V} {es : List Ent} {i : Nat} {x : V}, TripsAt H xs es → xs[i]? = some x → ∃ p e, x = .ref p ∧ es[i]? = some e ∧ H p = some (tri e)
  | x :: xs, e :: es, 0, y, ⟨⟨p, h1, h2⟩, _⟩, k => ⟨p, e, by rw [← h1]; exact (Option.some.inj k).symm, rfl, h2⟩
  | x :: xs, e :: es, i + 1, y, ⟨_, h⟩, k => TripsAt.get (xs := xs) (es := es) (i := i) h k
  | [], [], _, _, _, k => by simp at k
  | [], _ :: _, _, _, h, _ => h.elim
  | _ :: _, [], _, _, h, _ => h.elim
theorem TripsAt.map {H H' : Hp} (k : ∀ p e, H p = some (tri e) → H' p = some (tri e)) : ∀ {xs : List V} {es : List Ent}, TripsAt H xs es → TripsAt H' xs es
  | [], [], _ => trivial
  | _ :: _, _ :: _, ⟨⟨p, h1, h2⟩, h⟩ => ⟨⟨p, h1, k p _ h2⟩, TripsAt.map k h⟩
  | [], _ :: _, h => h.elim
  | _ :: _, [], h => h.elim
theorem TripsAt.same {H H' : Hp} {xs : List V} {es : List Ent} (h : TripsAt H xs es) (s : Same H H') : TripsAt H' xs es := h.map fun p e q => s _ _ q
theorem TripsAt.but {H H' : Hp} {D : Addr} {acc : List V} {xs : List V} {es : List Ent} (h : TripsAt H xs es) (k : ∀ b o, b ≠ D → H b = some o → H' b = some o) (hD : H D = some (.lst acc)) : TripsAt H' xs es := h.map fun p e q => k p _ (fun z => by rw [z, hD] at q; cases q) q
theorem TripsAt.ch {H H' : Hp} {f : Addr} {xs : List V} {es : List Ent} (h : TripsAt H xs es) (c : Ch f H H') (fe : ∃ acc, H f = some (.lst acc)) : TripsAt H' xs es := h.map fun p e q => by
  obtain ⟨acc, ha⟩ := fe
  exact c _ _ (fun z => by rw [z, ha] at q; cases q) q
theorem TripsAt.app {H : Hp} : ∀ {xs ys : List V} {es fs : List Ent}, TripsAt H xs es → TripsAt H ys fs → TripsAt H (xs ++ ys) (es ++ fs)
  | [], _, [], _, _, g => g
  | _ :: _, _, _ :: _, _, ⟨h1, h⟩, g => ⟨h1, TripsAt.app h g⟩
  | [], _, _ :: _, _, h, _ => h.elim
  | _ :: _, _, [], _, h, _ => h.elim
theorem trips_one {H : Hp} {p : Addr} {e : Ent} (h : H p = some (tri e)) : TripsAt H [.ref p] [e] := ⟨⟨p, rfl, h⟩, trivial⟩
theorem TripsAt.rev {H : Hp} : ∀ {xs : List V} {es : List Ent}, TripsAt H xs es → TripsAt H xs.reverse es.reverse
  | [], [], _ => trivial
  | x :: xs, e :: es, ⟨⟨p, h1, h2⟩, h⟩ => by
    rw [List.reverse_cons, List.reverse_cons, h1]
    exact (TripsAt.rev h).app (trips_one h2)
  | [], _ :: _, h => h.elim
  | _ :: _, [], h => h.elim
/-- a table stands at x -/
def TabAt (H : Hp) (C x : Addr) (T : List Ent) : Prop := ∃ (dx t : Addr) (ys : List V), H x = some (.ins C dx [("entries", .ref t)]) ∧ H t = some (.tup ys) ∧ TripsAt H ys T
theorem TabAt.same {H H' : Hp} {C x : Addr} {T : List Ent} (h : TabAt H C x T) (s : Same H H') : TabAt H' C x T := by
  obtain ⟨dx, t, ys, h1, h2, h3⟩ := h
  exact ⟨dx, t, ys, s _ _ h1, s _ _ h2, h3.same s⟩
theorem TabAt.ch {H H' : Hp} {C x f : Addr} {T : List Ent} (h : TabAt H C x T) (c : Ch f H H') (fe : ∃ acc, H f = some (.lst acc)) : TabAt H' C x T := by
  obtain ⟨dx, t, ys, h1, h2, h3⟩ := h
  obtain ⟨acc, ha⟩ := id fe
  exact ⟨dx, t, ys, c _ _ (fun z => by rw [z, ha] at h1; cases h1) h1, c _ _ (fun z => by rw [z, ha] at h2; cases h2) h2, h3.ch c fe⟩
structure Tbl (K : PySem.W.Frag) (C : Addr) : Prop where
  cl : Cls K C
  nE : NoAttr K C "entries"
theorem hu_of {k : Nat} {A : Around} (r : Room k A) : A.units + 100 < cLine := by have := r.un; omega
section
variable {P : Program} {w : World} {K : PySem.W.Frag} {mg : Str → Option Value} {base : Heap} {C : Addr}
def spTI (K : PySem.W.Frag) (C : Addr) : Sp := fun vs H Q _ => ∃ (x c dx : Addr) (xs : List V) (T : List Ent), vs = [.ref x, .ref c] ∧ H x = some (.ins C dx []) ∧ H c = some (.lst xs) ∧ TripsAt H xs T ∧ T.length ≤ 500 ∧
  ∀ H', (∀ b o, b ≠ x → H b = some o → H' b = some o) → TabAt H' C x T → Q .non H'
theorem ok_TI {f : Addr} {fd : FuncData} {k : Nat} (F : Fun K "__init__" "Table.__init__" sTI f fd) (T : Tbl K C) (mt : mg "tuple" = none) : FnOk P w K mg base CX0 (k + 1) f fd ["self", "entries"] (spTI K C) := by
  refine F.ok scTI (fun vs H Q E h => ?_) (fun cdv A outer s H vs Q E hr h => ?_)
  · obtain ⟨x, c, dx, xs, T, rfl, _⟩ := h
    rfl
  · obtain ⟨x, c, dx, xs, es, rfl, hx, hc, tr, le, hq⟩ := h
    refine ⟨_, pss_one (ps_fld (pv 0) (pe_callTy call_tuple_of (by rfl) mt (by decide +kernel) (pa_cons (pe_lc (own := [("low", 2), ("high", 3), ("amount", 4)]) (g := gTup K 3 (gCons (gName 2) (gCons (gName 3) (gCons (gName 4) gNil)))) (tt := tYes) (te := tTup (tCons (tVar 2) (tCons (tVar 3) (tCons (tVar 4) tNil)))) rfl scTI.nd (pi_list (pv 1)) (blkOk_by (own := [("low", 2), ("high", 3), ("amount", 4)]) (N := ["self", "entries", "low", "high", "amount"]) (sc := defScope sTI) (by decide +kernel))
        (fun _ _ _ _ _ => pg_tup rfl (pgs_cons (pg_name (i := 2) scTI.nd rfl (Or.inl rfl) (Or.inr rfl)) (pgs_cons (pg_name (i := 3) scTI.nd rfl (Or.inl rfl) (Or.inr rfl)) (pgs_cons (pg_name (i := 4) scTI.nd rfl (Or.inl rfl) (Or.inr rfl)) pgs_nil)))) (fun _ _ _ _ _ => pts_nil)
        (fun _ _ _ _ _ => pe_tup (pa_cons (pv 2) (pa_cons (pv 3) (pa_cons (pv 4) pa_nil))))) pa_nil)) rfl), ?_⟩
    have ll := tr.length
    refine ⟨.ref c, rfl, c, rfl, ⟨_, SqL.of hc⟩, fun D nD => ?_⟩
    refine lc_list (K := K) (a := c) (xs := xs) (fun i Hz => Same H Hz ∧ ∃ acc : List V, Hz D = some (.lst acc) ∧ TripsAt Hz acc (es.take i)) ⟨same_new nD, [], upd_same, trivial⟩ (fun i Hz _ z => SqL.of (z.1 _ _ hc)) ?_ ?_
    · rintro i y Hz hy ⟨sz, acc, eD, ta⟩
      obtain ⟨p, e, rfl, ee, hp⟩ := tr.get hy
      have hi2 := (List.getElem?_eq_some_iff.mp hy).1
      refine ⟨p, _, rfl, SqT.of (sz _ _ hp), rfl, .int e.1, [.int e.2.1, .int e.2.2], rfl, .int e.2.1, [.int e.2.2], rfl, .int e.2.2, [], rfl, rfl, rfl, iteT (B := True) ?_⟩
      refine ⟨.int e.1, rfl, .int e.2.1, rfl, .int e.2.2, rfl, by show 3 ≤ sizeLine; decide, fun q nq => ?_⟩
      have sq := same_new (o := tri e) nq
      have la := ta.length
      rw [List.length_take] at la
      have eD2 := sq _ _ eD
      refine ⟨acc, eD2, Nat.lt_of_le_of_lt (show acc.length ≤ 3000 by omega) (by decide), same_again nD (sz.trans sq), acc ++ [.ref q], upd_same, ?_⟩
      rw [List.take_add_one, ee]
      exact ((ta.same sq).app (trips_one (e := e) upd_same)).but (fun b o n e => by rw [upd_ne n]; exact e) eD2
    rintro H1 ⟨s1, acc, eD, ta⟩
    rw [ll, List.take_length] at ta
    refine ⟨D, acc, rfl, .inl ⟨SqL.of eD, fun t nt => ?_⟩⟩
    have s2 := s1.trans (same_new (o := .tup acc) nt)
    have et := upd_same (H := H1) (a := t) (o := .tup acc)
    have ta2 := ta.same (same_new (o := .tup acc) nt)
    generalize upd H1 t (.tup acc) = H2 at s2 et ta2 ⊢
    have hx2 := s2 _ _ hx
    refine ⟨.ref x, rfl, x, C, dx, [], rfl, hx2, T.cl, T.nE, by decide, ?_⟩
    have keep : ∀ b o, b ≠ x → H2 b = some o → (upd H2 x (.ins C dx (putF "entries" (.ref t) []))) b = some o := fun b o nb e => by rw [upd_ne nb]; exact e
    refine hq _ (fun b o nb e => keep b o nb (s2 _ _ e)) ⟨dx, t, acc, ?_, ?_, ?_⟩
    · rw [upd_same]; rfl
    · exact keep _ _ (fun z => by rw [z, hx2] at et; cases et) et
    · exact ta2.map fun p e q => keep p _ (fun z => by rw [z, hx2] at q; cases q) q
def spTA (C : Addr) : Sp := fun vs H Q _ => ∃ (x : Addr) (T : List Ent) (lo hi : Int), vs = [.ref x, .int lo, .int hi] ∧ TabAt H C x T ∧ T.length ≤ 500 ∧ ∀ H', Same H H' → Q (.int (amt T lo hi)) H'
theorem amts_take {T : List Ent} {lo hi : Int} {i : Nat} {e : Ent} (h : T[i]? = some e) : amts (T.take (i + 1)) lo hi = amts (T.take i) lo hi ++ (if has lo hi e = true then [e.2.2] else []) := by
  unfold amts
  rw [List.take_add_one, h]
  show List.map _ (List.filter _ (T.take i ++ [e])) = _
  rw [List.filter_append, List.map_append]
  congr 1
  cases k : has lo hi e <;> simp [List.filter, k]
theorem amts_len (T : List Ent) (lo hi : Int) : (amts T lo hi).length ≤ T.length := by
  unfold amts
  rw [List.length_map]
  exact List.length_filter_le _ _
theorem ok_TA {f : Addr} {fd : FuncData} {k : Nat} (F : Fun K "amount" "Table.amount" sTA f fd) (T : Tbl K C) (mm : mg "max" = none) :
    FnOk P w K mg base CX0 (k + 1) f fd ["self", "low", "high"] (spTA C) := by
  refine F.ok scTA (fun vs H Q E h => ?_) (fun cdv A outer s H vs Q E hr h => ?_)
  · obtain ⟨x, T, lo, hi, rfl, _⟩ := h
    rfl
  · obtain ⟨x, es, lo, hi, rfl, ⟨dx, t, ys, hx, ht, tr⟩, le, hq⟩ := h
    refine ⟨_, pss_cons (ps_setLc (i := 3) (own := [("amount", 4), ("start", 5), ("end", 6)]) (g := gTup K 3 (gCons (gName 5) (gCons (gName 6) (gCons (gName 4) gNil)))) (te := tVar 4) rfl scTA.nd rfl rfl (sw_true rfl rfl rfl (by decide +kernel)) (pi_tup (pe_fld (pv 0) rfl))
        (blkOk_by (own := [("amount", 4), ("start", 5), ("end", 6)]) (N := ["self", "low", "high", "amounts", "amount", "start", "end"]) (sc := defScope sTA) (by decide +kernel))
        (fun _ _ _ _ _ => pg_tup rfl (pgs_cons (pg_name (i := 5) scTA.nd rfl (Or.inl rfl) (Or.inr rfl)) (pgs_cons (pg_name (i := 6) scTA.nd rfl (Or.inl rfl) (Or.inr rfl)) (pgs_cons (pg_name (i := 4) scTA.nd rfl (Or.inl rfl) (Or.inr rfl)) pgs_nil))))
        (fun _ _ _ _ _ => pts_one (PW.pt (pw_and (pt_cmpR op_le (pv 1) (pv 5) (nomark _)) (pw_and1 (pt_cmpR op_le (pv 6) (pv 2) (nomark _))))))
        (fun _ _ _ _ _ => pv 4))
      (pss_one (ps_ret (pe_callBK (GM.cr_maxD rfl (hu_of hr)) (by rfl) mm (by decide +kernel) (pa_cons (pv 3) pa_nil) (pk_cons pe_int pk_nil)))), ?_⟩
    have ll := tr.length
    refine ⟨.ref x, rfl, x, C, dx, _, .ref t, rfl, hx, T.cl, T.nE, rfl, t, rfl, ⟨_, SqT.of ht⟩, fun D nD => ?_⟩
    refine lc_tup (K := K) (a := t) (xs := ys) (fun i Hz => Same H Hz ∧ Hz D = some (.lst ((amts (es.take i) lo hi).map V.int))) ⟨same_new nD, upd_same⟩ (fun i Hz _ z => SqT.of (z.1 _ _ ht)) ?_ ?_
    · rintro i y Hz hy ⟨sz, eD⟩
      obtain ⟨p, e, rfl, ee, hp⟩ := tr.get hy
      have l2 : 2 ≤ sizeLine := by decide
      refine ⟨p, _, rfl, SqT.of (sz _ _ hp), rfl, .int e.1, [.int e.2.1, .int e.2.2], rfl, .int e.2.1, [.int e.2.2], rfl, .int e.2.2, [], rfl, rfl, rfl, ?_⟩
      have st := amts_take (lo := lo) (hi := hi) ee
      have la := amts_len (es.take i) lo hi
      rw [List.length_take] at la
      have eh : has lo hi e = (decide (lo ≤ e.1) && decide (e.2.1 ≤ hi)) := rfl
      refine ⟨.int lo, rfl, .int e.1, rfl, lo, e.1, rfl, rfl, _, rfl, ?_⟩
      have yes : has lo hi e = true → Hz D = some (.lst ((amts (es.take i) lo hi).map V.int)) → True := fun _ _ => trivial
      by_cases c1 : lo ≤ e.1
      · rw [decide_eq_true c1, Bool.true_and] at eh
        rw [decide_eq_true c1]
        refine iteT ⟨.int e.2.1, rfl, .int hi, rfl, e.2.1, hi, rfl, rfl, _, rfl, ?_⟩
        rw [← eh]
        cases k : has lo hi e with
        | true =>
          rw [k, if_pos rfl] at st
          refine iteT ⟨.int e.2.2, rfl, _, eD, ?_, same_again nD sz, ?_⟩
          · rw [List.length_map]; exact Nat.lt_of_le_of_lt (show _ ≤ 3000 by omega) (by decide)
          · rw [upd_same, st, List.map_append]; rfl
        | false =>
          rw [k, if_neg (by simp), List.append_nil] at st
          exact iteF ⟨sz, by rw [st]; exact eD⟩
      · rw [decide_eq_false c1, Bool.false_and] at eh
        rw [decide_eq_false c1]
        rw [eh, if_neg (by simp), List.append_nil] at st
        refine iteF ?_
        refine iteF ?_
        exact ⟨sz, by rw [st]; exact eD⟩
    rintro H1 ⟨s1, eD⟩
    rw [ll, List.take_length] at eD
    refine ⟨.ref D, rfl, D, amts es lo hi, 0, rfl, rfl, SqL.of eD, ?_⟩
    have et : GM.topD 0 (amts es lo hi) = amt es lo hi := by unfold amt; cases amts es lo hi <;> rfl
    rw [et]
    exact hq _ s1
def spTWl (K : PySem.W.Frag) (C : Addr) : Sp := fun vs H Q _ => ∃ (x a : Addr) (T : List Ent) (xs : List V) (rs : List (Int × Int)), vs = [.ref x, .ref a] ∧ TabAt H C x T ∧ T.length ≤ 500 ∧ SqL K H a xs ∧ PairsAt H xs rs ∧ rs.length ≤ 500 ∧ ∀ H', Same H H' → Q (.int (wear T rs)) H'
def spTWt (K : PySem.W.Frag) (C : Addr) : Sp := fun vs H Q _ => ∃ (x a : Addr) (T : List Ent) (xs : List V) (rs : List (Int × Int)), vs = [.ref x, .ref a] ∧ TabAt H C x T ∧ T.length ≤ 500 ∧ SqT K H a xs ∧ PairsAt H xs rs ∧ rs.length ≤ 500 ∧ ∀ H', Same H H' → Q (.int (wear T rs)) H'
theorem ok_TWl {f fA : Addr} {fd dA : FuncData} {k : Nat} (F : Fun K "wear" "Table.wear" sTW f fd) (T : Tbl K C) (mA : Meth K C "amount" fA) (GA : FnOk P w K mg base CX0 (k + 2) fA dA ["self", "low", "high"] (spTA C)) (bA : Binds K dA ["self", "low", "high"] []) (ms : mg "sum" = none) :
    FnOk P w K mg base CX0 (k + 3) f fd ["self", "ranges"] (spTWl K C) := by
  refine F.ok scTW (fun vs H Q E h => ?_) (fun cdv A outer s H vs Q E hr h => ?_)
  · obtain ⟨x, a, T, xs, rs, rfl, _⟩ := h
    rfl
  · obtain ⟨x, a, es, xs, rs, rfl, tab, le, hS, pa, lr, hq⟩ := h
    refine ⟨_, pss_one (ps_ret (pe_callB (cr_sum rfl) (by rfl) ms (by decide +kernel) (pa_cons (pe_lc (own := [("low", 2), ("high", 3)]) (g := gTup K 2 (gCons (gName 2) (gCons (gName 3) gNil))) (tt := tYes) (te := tMeth C "amount" (spTA C) [] E0 (tVar 0) (tCons (tVar 2) (tCons (tVar 3) tNil))) rfl scTW.nd (pi_list (pv 1)) (blkOk_by (own := [("low", 2), ("high", 3)]) (N := ["self", "ranges", "low", "high"]) (sc := defScope sTW) (by decide +kernel))
        (fun _ _ _ _ _ => pg_tup rfl (pgs_cons (pg_name (i := 2) scTW.nd rfl (Or.inl rfl) (Or.inr rfl)) (pgs_cons (pg_name (i := 3) scTW.nd rfl (Or.inl rfl) (Or.inr rfl)) pgs_nil))) (fun _ _ _ _ _ => pts_nil)
        (fun _ _ _ _ _ => pe_meth (pv 0) T.cl mA GA hr bA .nil pass0 (pa_cons (pv 2) (pa_cons (pv 3) pa_nil)))) pa_nil))), ?_⟩
    have ll := pa.length
    refine ⟨.ref a, rfl, a, rfl, ⟨_, hS⟩, fun D nD => ?_⟩
    refine lc_list (K := K) (a := a) (xs := xs) (fun i Hz => Same H Hz ∧ Hz D = some (.lst (((rs.take i).map fun r => amt es r.1 r.2).map V.int))) ⟨same_new nD, upd_same⟩ (fun i Hz _ z => z.1.seq hS) ?_ ?_
    · rintro i y Hz hy ⟨sz, eD⟩
      obtain ⟨p, r, rfl, er, hp⟩ := pairs_get pa hy
      obtain ⟨dx, t, ys, hx, _⟩ := id tab
      refine ⟨p, _, rfl, SqT.of (sz _ _ hp), rfl, .int r.1, [.int r.2], rfl, .int r.2, [], rfl, rfl, rfl, iteT (B := True) ?_⟩
      refine ⟨.ref x, rfl, x, dx, _, rfl, sz _ _ hx, rfl, .int r.1, rfl, .int r.2, rfl, x, es, r.1, r.2, rfl, tab.same sz, le, fun H2 s2 => ?_⟩
      refine ⟨_, s2 _ _ eD, ?_, same_again nD (sz.trans s2), ?_⟩
      · rw [List.length_map, List.length_map, List.length_take]; exact Nat.lt_of_le_of_lt (show _ ≤ 3000 by omega) (by decide)
      · rw [upd_same, List.take_add_one, er, List.map_append, List.map_append]; rfl
    rintro H1 ⟨s1, eD⟩
    rw [ll, List.take_length] at eD
    exact ⟨D, _, rfl, SqL.of eD, hq _ s1⟩
theorem ok_TWt {f fA : Addr} {fd dA : FuncData} {k : Nat} (F : Fun K "wear" "Table.wear" sTW f fd) (T : Tbl K C) (mA : Meth K C "amount" fA) (GA : FnOk P w K mg base CX0 (k + 2) fA dA ["self", "low", "high"] (spTA C)) (bA : Binds K dA ["self", "low", "high"] []) (ms : mg "sum" = none) :
    FnOk P w K mg base CX0 (k + 3) f fd ["self", "ranges"] (spTWt K C) := by
  refine F.ok scTW (fun vs H Q E h => ?_) (fun cdv A outer s H vs Q E hr h => ?_)
  · obtain ⟨x, a, T, xs, rs, rfl, _⟩ := h
    rfl
  · obtain ⟨x, a, es, xs, rs, rfl, tab, le, hS, pa, lr, hq⟩ := h
    refine ⟨_, pss_one (ps_ret (pe_callB (cr_sum rfl) (by rfl) ms (by decide +kernel) (pa_cons (pe_lc (own := [("low", 2), ("high", 3)]) (g := gTup K 2 (gCons (gName 2) (gCons (gName 3) gNil))) (tt := tYes) (te := tMeth C "amount" (spTA C) [] E0 (tVar 0) (tCons (tVar 2) (tCons (tVar 3) tNil))) rfl scTW.nd (pi_tup (pv 1)) (blkOk_by (own := [("low", 2), ("high", 3)]) (N := ["self", "ranges", "low", "high"]) (sc := defScope sTW) (by decide +kernel))
        (fun _ _ _ _ _ => pg_tup rfl (pgs_cons (pg_name (i := 2) scTW.nd rfl (Or.inl rfl) (Or.inr rfl)) (pgs_cons (pg_name (i := 3) scTW.nd rfl (Or.inl rfl) (Or.inr rfl)) pgs_nil))) (fun _ _ _ _ _ => pts_nil)
        (fun _ _ _ _ _ => pe_meth (pv 0) T.cl mA GA hr bA .nil pass0 (pa_cons (pv 2) (pa_cons (pv 3) pa_nil)))) pa_nil))), ?_⟩
    have ll := pa.length
    refine ⟨.ref a, rfl, a, rfl, ⟨_, hS⟩, fun D nD => ?_⟩
    refine lc_tup (K := K) (a := a) (xs := xs) (fun i Hz => Same H Hz ∧ Hz D = some (.lst (((rs.take i).map fun r => amt es r.1 r.2).map V.int))) ⟨same_new nD, upd_same⟩ (fun i Hz _ z => SqT_same z.1 hS) ?_ ?_
    · rintro i y Hz hy ⟨sz, eD⟩
      obtain ⟨p, r, rfl, er, hp⟩ := pairs_get pa hy
      obtain ⟨dx, t, ys, hx, _⟩ := id tab
      refine ⟨p, _, rfl, SqT.of (sz _ _ hp), rfl, .int r.1, [.int r.2], rfl, .int r.2, [], rfl, rfl, rfl, iteT (B := True) ?_⟩
      refine ⟨.ref x, rfl, x, dx, _, rfl, sz _ _ hx, rfl, .int r.1, rfl, .int r.2, rfl, x, es, r.1, r.2, rfl, tab.same sz, le, fun H2 s2 => ?_⟩
      refine ⟨_, s2 _ _ eD, ?_, same_again nD (sz.trans s2), ?_⟩
      · rw [List.length_map, List.length_map, List.length_take]; exact Nat.lt_of_le_of_lt (show _ ≤ 3000 by omega) (by decide)
      · rw [upd_same, List.take_add_one, er, List.map_append, List.map_append]; rfl
    rintro H1 ⟨s1, eD⟩
    rw [ll, List.take_length] at eD
    exact ⟨D, _, rfl, SqL.of eD, hq _ s1⟩
end
end XT

/-! drawn entries -/
namespace XU
open PySem PySem.Spec PyProof.Rows L2 KA KD KL PH PM PA PB PC RM RN QE QF QG QH K52b XT
abbrev sIv : Stmt := topS 23
abbrev sEn : Stmt := topS 24
theorem scIv : FnScope ["feed", "most", "low"] ["feed", "most"] (defScope sIv) := ⟨rfl, rfl, rfl, by decide +kernel, rfl, by decide +kernel, by decide +kernel⟩
theorem scEn : FnScope ["feed", "most", "found", "turn", "low", "high"] ["feed", "most"] (defScope sEn) := ⟨rfl, rfl, rfl, by decide +kernel, rfl, by decide +kernel, by decide +kernel⟩
theorem cutv_to (xs : List V) (j : Nat) : cutV xs none (some (j : Int)) = xs.take j := by
  unfold cutV
  rw [HT.sIx_nat xs.length xs.length j, HT.sIx_none]
  rw [List.drop_zero, Nat.sub_zero]
  by_cases h : j ≤ xs.length
  · rw [Nat.min_eq_left h]
  · rw [Nat.min_eq_right (by omega), List.take_length, List.take_of_length_le (by omega)]
theorem cutv_from (xs : List V) (j : Nat) : cutV xs (some (j : Int)) none = xs.drop j := by
  unfold cutV
  rw [HT.sIx_nat xs.length 0 j, HT.sIx_none]
  by_cases h : j ≤ xs.length
  · rw [Nat.min_eq_left h, List.take_of_length_le (by rw [List.length_drop]; exact Nat.le_refl _)]
  · rw [Nat.min_eq_right (by omega), Nat.sub_self, List.take_zero, List.drop_of_length_le (by omega)]
theorem fe_lst {H : Hp} {f : Addr} (fe : FeedAt H f) : ∃ acc, H f = some (.lst acc) := by
  obtain ⟨d, st, _, _, _, e⟩ := fe
  exact ⟨_, e⟩
theorem ch_tup {f t : Addr} {H H' : Hp} {xs : List V} (c : Ch f H H') (fe : FeedAt H f) (h : H t = some (.tup xs)) : H' t = some (.tup xs) := by
  refine c _ _ (fun z => ?_) h
  obtain ⟨acc, e⟩ := fe_lst fe
  rw [z, e] at h
  cases h
/-! data of entries -/
def dTrips (es : List Ent) : List PyData := es.map fun e => .tuple [.int e.1, .int e.2.1, .int e.2.2]
theorem dp_trips {K : PySem.W.Frag} {H : Hp} : ∀ {xs : List V} {es : List Ent}, TripsAt H xs es → DpAll K H xs (dTrips es)
  | [], [], _ => .nil
  | x :: xs, e :: es, ⟨⟨p, h1, h2⟩, h3⟩ => by
    subst h1
    exact .cons (.tup (SqT.of h2) (.cons (.int _) (.cons (.int _) (.cons (.int _) .nil)))) (dp_trips h3)
  | [], _ :: _, h => h.elim
  | _ :: _, [], h => h.elim
theorem lay_trips : ∀ es : List Ent, PyData.canLayAll0 (dTrips es) = true
  | [] => rfl
  | e :: es => by
    show (PyData.canLay0 (.tuple [.int e.1, .int e.2.1, .int e.2.2]) && PyData.canLayAll0 (dTrips es)) = true
    rw [lay_trips es]
    simp only [PyData.canLay0, PyData.canLayAll0, Bool.and_true]
theorem depth_trips : ∀ es : List Ent, PyData.depthAll (dTrips es) ≤ 3
  | [] => Nat.zero_le _
  | e :: es => by
    have h := depth_trips es
    show max (PyData.depth (.tuple [.int e.1, .int e.2.1, .int e.2.2])) (PyData.depthAll (dTrips es)) ≤ 3
    simp only [PyData.depth, PyData.depthAll]
    omega
theorem shaped_trips (es : List Ent) : SeqAt.shaped (.list (dTrips es)) = true :=
  shaped_of (by simp only [PyData.canLay0, lay_trips]) (by have := depth_trips es; simp only [PyData.depth]; omega)
theorem ev_trips (es : List Ent) : PyData.eqv (.list (dTrips es)) (.list (dInts [])) = decide (es = []) := by
  cases es with
  | nil => rfl
  | cons e es => rfl
section
variable {P : Program} {w : World} {K : PySem.W.Frag} {mg : Str → Option Value} {base : Heap}
def spIv : Sp := fun vs H Q _ => ∃ (f : Addr) (m : Int), vs = [.ref f, .int m] ∧ 0 < m ∧ m ≤ 1000 ∧ FeedAt H f ∧ ∀ H' p lo hi, Ch f H H' → FeedAt H' f → H p = none → H' p = some (.tup [.int lo, .int hi]) → lo < hi → Q (.ref p) H'
theorem ok_iv {f0 fT : Addr} {fd dT : FuncData} {k : Nat} (F : Fun K "_law_interval" "_law_interval" sIv f0 fd) (GT : FnOk P w K mg base CX0 (k + 1) fT dT ["feed", "many"] spTake) (gT : mg "_law_take" = some (.ref fT)) (kT : PySem.W.keepIn K (.ref fT) = true) (bT : Binds K dT ["feed", "many"] []) :
    FnOk P w K mg base CX0 (k + 2) f0 fd ["feed", "most"] spIv := by
  refine F.ok scIv (fun vs H Q E h => ?_) (fun cdv A outer s H vs Q E hr h => ?_)
  · obtain ⟨f, m, rfl, _⟩ := h
    rfl
  · obtain ⟨f, m, rfl, m0, m1, fe, hq⟩ := h
    refine ⟨_, pss_cons (ps_set (i := 2) scIv.nd rfl (.inl rfl) (pe_call GT hr (by rfl) gT kT bT .nil pass0 (pa_cons (pv 0) (pa_cons (pv 1) pa_nil))))
      (pss_one (ps_ret (pe_tup (pa_cons (pv 2) (pa_cons (pe_op op_add (pe_op op_add (pv 2) pe_int) (pe_call GT hr (by rfl) gT kT bT .nil pass0 (pa_cons (pv 0) (pa_cons (pe_op op_sub (pv 1) (pv 2)) pa_nil)))) pa_nil))))), ?_⟩
    refine ⟨.ref f, rfl, .int m, rfl, f, m, rfl, m0, by omega, fe, fun H1 x c1 fe1 g0 g1 => ?_⟩
    refine ⟨.int x, rfl, .int x, rfl, x, 1, rfl, rfl, .ref f, rfl, .int m, rfl, .int x, rfl, m, x, rfl, rfl, f, m - x, rfl, by omega, by omega, fe1, fun H2 y c2 fe2 g2 g3 => ?_⟩
    refine ⟨x + 1, y, rfl, rfl, by show 2 ≤ sizeLine; decide, fun p np => ?_⟩
    have sp := same_new (o := .tup [.int x, .int (x + 1 + y)]) np
    have c := c1.trans c2
    exact hq _ p x (x + 1 + y) (c.trans (Ch.of_same sp)) (fe2.same sp) (c.free (fe2.ne np) np) upd_same (by omega)
def spEn (K : PySem.W.Frag) : Sp := fun vs H Q _ => ∃ (f : Addr) (m : Int), vs = [.ref f, .int m] ∧ 0 < m ∧ m ≤ 1000 ∧ FeedAt H f ∧ ∀ H' c xs es, Ch f H H' → FeedAt H' f → H' c = some (.lst xs) → c ≠ f → TripsAt H' xs es → Good es → es.length ≤ 6 → Q (.ref c) H'
/-- what the loop keeps -/
structure En (H : Hp) (f c : Addr) (xs : List V) (es : List Ent) (Hz : Hp) : Prop where
  ch : Ch f H Hz
  fe : FeedAt Hz f
  hc : Hz c = some (.lst xs)
  tr : TripsAt Hz xs es
  g : Good es
theorem En.go {H : Hp} {f c : Addr} {xs : List V} {es : List Ent} {H1 H2 : Hp} (g : En H f c xs es H1) (n : c ≠ f) (k : Ch f H1 H2) (fe : FeedAt H2 f) : En H f c xs es H2 :=
  ⟨g.ch.trans k, fe, k _ _ n g.hc, g.tr.ch k (fe_lst g.fe), g.g⟩
theorem En.same {H : Hp} {f c : Addr} {xs : List V} {es : List Ent} {H1 H2 : Hp} (g : En H f c xs es H1) (n : c ≠ f) (s : Same H1 H2) : En H f c xs es H2 := g.go n (Ch.of_same s) (g.fe.same s)
theorem ok_en {f0 fT fI fP : Addr} {fd dT dI dP : FuncData} {k : Nat} (F : Fun K "_law_entries" "_law_entries" sEn f0 fd) (GT : FnOk P w K mg base CX0 (k + 1) fT dT ["feed", "many"] spTake) (gT : mg "_law_take" = some (.ref fT)) (kT : PySem.W.keepIn K (.ref fT) = true) (bT : Binds K dT ["feed", "many"] [])
    (GI : FnOk P w K mg base CX0 (k + 2) fI dI ["feed", "most"] spIv) (gI : mg "_law_interval" = some (.ref fI)) (kI : PySem.W.keepIn K (.ref fI) = true) (bI : Binds K dI ["feed", "most"] [])
    (GP : FnOk P w K mg base CX0 (k + 2) fP dP ["feed", "some"] (spPick K)) (gP : mg "_law_pick" = some (.ref fP)) (kP : PySem.W.keepIn K (.ref fP) = true) (bP : Binds K dP ["feed", "some"] []) (mr : mg "range" = none) :
    FnOk P w K mg base CX0 (k + 3) f0 fd ["feed", "most"] (spEn K) := by
  refine F.ok scEn (fun vs H Q E h => ?_) (fun cdv A outer s H vs Q E hr h => ?_)
  · obtain ⟨f, m, rfl, _⟩ := h
    rfl
  · obtain ⟨f, m, rfl, m0, m1, fe, hq⟩ := h
    have h1 := hr.mono (show k + 1 ≤ k + 2 by omega)
    refine ⟨_, pss_cons (ps_set (i := 2) scEn.nd rfl (.inl rfl) (pe_lst pa_nil))
      (pss_cons (ps_for PassesOwn.never rfl (pi_range1 rfl mr (pa_cons (pe_call GT h1 (by rfl) gT kT bT .nil pass0 (pa_cons (pv 0) (pa_cons pe_int pa_nil))) pa_nil)) (pg_name (i := 3) scEn.nd rfl (.inl rfl))
        (pss_cons (ps_asg (pe_call GI hr (by rfl) gI kI bI .nil pass0 (pa_cons (pv 0) (pa_cons (pv 1) pa_nil))) (pg_tup rfl (pgs_cons (pg_name (i := 4) scEn.nd rfl (.inl rfl)) (pgs_cons (pg_name (i := 5) scEn.nd rfl (.inl rfl)) pgs_nil))))
        (pss_cons (ps_if (PW.pt (pw_and (pt_cmpR (op_neD hr.units) (pv 2) (pe_lst pa_nil) (nomark _)) (pw_and1 (pt_cmpR op_eq (pe_call GT h1 (by rfl) gT kT bT .nil pass0 (pa_cons (pv 0) (pa_cons pe_int pa_nil))) pe_int (nomark _)))))
          (pss_one (ps_asg (pe_slice sl_tup (pe_ix ix_list (pv 2) (pe_un un_neg pe_int) (fun _ _ => rfl)) po_none (po_some pe_int)) (pg_tup rfl (pgs_cons (pg_name (i := 4) scEn.nd rfl (.inl rfl)) (pgs_cons (pg_name (i := 5) scEn.nd rfl (.inl rfl)) pgs_nil))))) pss_nil)
        (pss_one (ps_expr (pe_bm PySem.F.plainAttrs_list PySem.F.slot_list_append PySem.F.type_list_append mt_append (pv 2) (pa_cons (pe_tup (pa_cons (pv 4) (pa_cons (pv 5) (pa_cons (pe_call GP hr (by rfl) gP kP bP .nil pass0 (pa_cons (pv 0) (pa_cons (pe_lst (pa_cons pe_int (pa_cons pe_int (pa_cons pe_int (pa_cons pe_int (pa_cons (pe_op op_pow pe_int pe_int) (pa_cons (pe_call GT h1 (by rfl) gT kT bT .nil pass0 (pa_cons (pv 0) (pa_cons pe_int pa_nil))) pa_nil))))))) pa_nil))) pa_nil)))) pa_nil)))))))
      (pss_one (ps_ret (pv 2)))), ?_⟩
    refine ⟨Nat.zero_le _, fun c nc => ?_⟩
    have sc := same_new (o := .lst []) nc
    have ncf := fe.ne nc
    have ec := upd_same (H := H) (a := c) (o := .lst [])
    have g0 : En H f c [] [] (upd H c (.lst [])) := ⟨Ch.of_same sc, fe.same sc, ec, trivial, fun e he => (List.not_mem_nil he).elim⟩
    generalize upd H c (.lst []) = H0 at g0 ⊢
    clear sc ec
    refine ⟨.ref f, rfl, f, 7, rfl, by decide, by decide, g0.fe, fun H1 n c1 fe1 n0 n7 => ?_⟩
    have g1 := g0.go ncf c1 fe1
    refine ⟨n, rfl, by omega, by omega, for_range (lo := 0) (n := n.toNat) (fun i σ Hz => ∃ xs es, En H f c xs es Hz ∧ es.length = i ∧ ∃ r3 r4 r5 : Option V, σ = [some (.ref f), some (.int m), some (.ref c), r3, r4, r5]) ⟨[], [], g1, rfl, none, none, none, rfl⟩ ?_ ?_⟩
    · clear g0 g1 c1 fe1
      rintro i σ Hz hi ⟨xs, es, g, le, r3, r4, r5, rfl⟩
      have lx := g.tr.length
      refine ⟨.ref f, rfl, .int m, rfl, f, m, rfl, m0, m1, g.fe, fun H2 p lo hi c2 fe2 np ep lh => ?_⟩
      have g2 := g.go ncf c2 fe2
      refine ⟨p, _, rfl, SqT.of ep, rfl, .int lo, [.int hi], rfl, .int hi, [], rfl, rfl, ?_⟩
      refine ⟨.ref c, rfl, Nat.zero_le _, fun e1 ne1 => ?_⟩
      have s3 := same_new (o := .lst []) ne1
      have g3 := g2.same ncf s3
      refine ⟨.list (dTrips es), .list (dInts []), .lst (SqL.of g3.hc) (dp_trips g3.tr), .lst (SqL.of upd_same) (dp_ints []), shaped_trips es, shaped_lst [], _, rfl, ?_⟩
      rw [ev_trips]
      generalize upd H2 e1 (.lst []) = H3 at g3 ⊢
      by_cases he : es = []
      · rw [decide_eq_true he]
        refine iteF (iteF ?_)
        refine ⟨.ref c, rfl, .inl ⟨rfl, _, SqL.of g3.hc⟩, .int lo, rfl, .int hi, rfl, .ref f, rfl, 10, 6, rfl, rfl, ⟨by decide, by decide, by decide⟩, .ref f, rfl, f, 50, rfl, by decide, by decide, g3.fe, fun H4 t c4 fe4 t0 t1 => ⟨by show 6 ≤ sizeLine; decide, fun l nl => ?_⟩⟩
        have g4 := g3.go ncf c4 fe4
        have sl := same_new (o := .lst [.int 0, .int 1, .int 2, .int 5, .int (10 ^ (6 : Int).toNat), .int t]) nl
        have g5 := g4.same ncf sl
        refine ⟨f, l, _, rfl, g4.fe.ne nl, SqL.of upd_same, by show 0 < 6; decide, by show 6 ≤ 1000; decide, g5.fe, fun H6 j v hv c6 fe6 => ?_⟩
        obtain ⟨am, rfl, a0⟩ : ∃ am : Int, v = .int am ∧ 0 ≤ am := by
          match j, hv with
          | 0, hv => exact ⟨0, (Option.some.inj hv).symm, by decide⟩
          | 1, hv => exact ⟨1, (Option.some.inj hv).symm, by decide⟩
          | 2, hv => exact ⟨2, (Option.some.inj hv).symm, by decide⟩
          | 3, hv => exact ⟨5, (Option.some.inj hv).symm, by decide⟩
          | 4, hv => exact ⟨_, (Option.some.inj hv).symm, by decide⟩
          | 5, hv => exact ⟨t, (Option.some.inj hv).symm, t0⟩
          | n + 6, hv => simp at hv
        have g6 := g5.go ncf c6 fe6
        refine ⟨by show 3 ≤ sizeLine; decide, fun q nq => ?_⟩
        have sq := same_new (o := tri (lo, hi, am)) nq
        have g7 := g6.same ncf sq
        refine ⟨c, xs, _, rfl, rfl, g7.hc, Nat.lt_of_le_of_lt (show xs.length ≤ 3000 by omega) (by decide), ?_⟩
        exact ⟨xs ++ [.ref q], es ++ [(lo, hi, am)], ⟨Ch.again nc g7.ch, g7.fe.upd ncf, upd_same, (g7.tr.app (trips_one (e := (lo, hi, am)) upd_same)).but (fun b o n e => by rw [upd_ne n]; exact e) g7.hc, g.g.app (good_one ⟨lh, a0⟩)⟩, by rw [List.length_append]; show es.length + 1 = _; omega, _, _, _, rfl⟩
      · rw [decide_eq_false he]
        refine iteT ⟨.ref f, rfl, f, 4, rfl, by decide, by decide, g3.fe, fun H5 t c5 fe5 t0 t4 => ⟨rfl, _, rfl, ?_⟩⟩
        have g8 := g3.go ncf c5 fe5
        refine ite2 (fun _ => ?_) (fun _ => ?_)
        · rcases List.eq_nil_or_concat xs with e | ⟨ys, v, e⟩
          · subst e
            exact absurd (List.length_eq_zero_iff.mp (show es.length = 0 by simpa using lx.symm)) he
          rw [List.concat_eq_append] at e
          obtain ⟨p2, en, rfl, ee, hp2⟩ := g8.tr.get (i := ys.length) (x := v) (by rw [e]; simp)
          have ge := g8.g en (List.mem_of_getElem? ee)
          refine ⟨.ref c, rfl, 1, rfl, c, _, -1, .ref p2, rfl, rfl, SqL.of g8.hc, by rw [e]; exact atI_last _ _, 2, rfl, p2, _, rfl, SqT.of hp2, (by show ¬(HT.sIx 3 0 none = 0 ∧ HT.sIx 3 3 (some 2) = 3); decide), fun p3 np3 => ?_⟩
          rw [show (some (2 : Int)) = some ((2 : Nat) : Int) from rfl, cutv_to]
          have s9 := same_new (o := .tup [.int en.1, .int en.2.1]) np3
          have g9 := g8.same ncf s9
          refine ⟨p3, [.int en.1, .int en.2.1], rfl, SqT.of upd_same, rfl, .int en.1, [.int en.2.1], rfl, .int en.2.1, [], rfl, rfl, ?_⟩
          refine ⟨.ref c, rfl, .inl ⟨rfl, _, SqL.of g9.hc⟩, .int en.1, rfl, .int en.2.1, rfl, .ref f, rfl, 10, 6, rfl, rfl, ⟨by decide, by decide, by decide⟩, .ref f, rfl, f, 50, rfl, by decide, by decide, g9.fe, fun H4 t c4 fe4 t0 t1 => ⟨by show 6 ≤ sizeLine; decide, fun l nl => ?_⟩⟩
          have g4 := g9.go ncf c4 fe4
          have sl := same_new (o := .lst [.int 0, .int 1, .int 2, .int 5, .int (10 ^ (6 : Int).toNat), .int t]) nl
          have g5 := g4.same ncf sl
          refine ⟨f, l, _, rfl, g4.fe.ne nl, SqL.of upd_same, by show 0 < 6; decide, by show 6 ≤ 1000; decide, g5.fe, fun H6 j v hv c6 fe6 => ?_⟩
          obtain ⟨am, rfl, a0⟩ : ∃ am : Int, v = .int am ∧ 0 ≤ am := by
            match j, hv with
            | 0, hv => exact ⟨0, (Option.some.inj hv).symm, by decide⟩
            | 1, hv => exact ⟨1, (Option.some.inj hv).symm, by decide⟩
            | 2, hv => exact ⟨2, (Option.some.inj hv).symm, by decide⟩
            | 3, hv => exact ⟨5, (Option.some.inj hv).symm, by decide⟩
            | 4, hv => exact ⟨_, (Option.some.inj hv).symm, by decide⟩
            | 5, hv => exact ⟨t, (Option.some.inj hv).symm, t0⟩
            | n + 6, hv => simp at hv
          have g6 := g5.go ncf c6 fe6
          refine ⟨by show 3 ≤ sizeLine; decide, fun q nq => ?_⟩
          have sq := same_new (o := tri (en.1, en.2.1, am)) nq
          have g7 := g6.same ncf sq
          refine ⟨c, xs, _, rfl, rfl, g7.hc, Nat.lt_of_le_of_lt (show xs.length ≤ 3000 by omega) (by decide), ?_⟩
          exact ⟨xs ++ [.ref q], es ++ [(en.1, en.2.1, am)], ⟨Ch.again nc g7.ch, g7.fe.upd ncf, upd_same, (g7.tr.app (trips_one (e := (en.1, en.2.1, am)) upd_same)).but (fun b o n e => by rw [upd_ne n]; exact e) g7.hc, g.g.app (good_one ⟨ge.1, a0⟩)⟩, by rw [List.length_append]; show es.length + 1 = _; omega, _, _, _, rfl⟩
        · skip
          refine ⟨.ref c, rfl, .inl ⟨rfl, _, SqL.of g8.hc⟩, .int lo, rfl, .int hi, rfl, .ref f, rfl, 10, 6, rfl, rfl, ⟨by decide, by decide, by decide⟩, .ref f, rfl, f, 50, rfl, by decide, by decide, g8.fe, fun H4 t c4 fe4 t0 t1 => ⟨by show 6 ≤ sizeLine; decide, fun l nl => ?_⟩⟩
          have g4 := g8.go ncf c4 fe4
          have sl := same_new (o := .lst [.int 0, .int 1, .int 2, .int 5, .int (10 ^ (6 : Int).toNat), .int t]) nl
          have g5 := g4.same ncf sl
          refine ⟨f, l, _, rfl, g4.fe.ne nl, SqL.of upd_same, by show 0 < 6; decide, by show 6 ≤ 1000; decide, g5.fe, fun H6 j v hv c6 fe6 => ?_⟩
          obtain ⟨am, rfl, a0⟩ : ∃ am : Int, v = .int am ∧ 0 ≤ am := by
            match j, hv with
            | 0, hv => exact ⟨0, (Option.some.inj hv).symm, by decide⟩
            | 1, hv => exact ⟨1, (Option.some.inj hv).symm, by decide⟩
            | 2, hv => exact ⟨2, (Option.some.inj hv).symm, by decide⟩
            | 3, hv => exact ⟨5, (Option.some.inj hv).symm, by decide⟩
            | 4, hv => exact ⟨_, (Option.some.inj hv).symm, by decide⟩
            | 5, hv => exact ⟨t, (Option.some.inj hv).symm, t0⟩
            | n + 6, hv => simp at hv
          have g6 := g5.go ncf c6 fe6
          refine ⟨by show 3 ≤ sizeLine; decide, fun q nq => ?_⟩
          have sq := same_new (o := tri (lo, hi, am)) nq
          have g7 := g6.same ncf sq
          refine ⟨c, xs, _, rfl, rfl, g7.hc, Nat.lt_of_le_of_lt (show xs.length ≤ 3000 by omega) (by decide), ?_⟩
          exact ⟨xs ++ [.ref q], es ++ [(lo, hi, am)], ⟨Ch.again nc g7.ch, g7.fe.upd ncf, upd_same, (g7.tr.app (trips_one (e := (lo, hi, am)) upd_same)).but (fun b o n e => by rw [upd_ne n]; exact e) g7.hc, g.g.app (good_one ⟨lh, a0⟩)⟩, by rw [List.length_append]; show es.length + 1 = _; omega, _, _, _, rfl⟩
    rintro σ H9 ⟨xs, es, g, le, r3, r4, r5, rfl⟩
    exact ⟨.ref c, rfl, hq _ c xs es g.ch g.fe g.hc ncf g.tr g.g (by omega)⟩
end
end XU

/-! xs[::-1] of a list -/
namespace GR
open PySem PySem.Spec PyProof.Rows L2
def tBack (K : PySem.W.Frag) (te : TE) (tk : TO) : TE := fun σ H Q => te σ H fun v H1 => tk σ H1 fun o H2 => o = some (-1) ∧ ∃ a xs, v = .ref a ∧ SqL K H2 a xs ∧ ∀ p, H2 p = none → Q (.ref p) (upd H2 p (.lst xs.reverse))
theorem pe_back {X : Cx} {e st : Expr} {te : TE} {tk : TO} {p2 pos : Pos} (he : PE X e te) (hk : PO X (some st) tk) : PE X (.Subscript e (.Slice none none (some st) p2) pos) (tBack X.K te tk) := by
  refine ⟨fun pins s σ H Q I h => ?_⟩
  refine Subscript_ (thn (he.run pins s σ H _ I h) fun v s1 ⟨x, H1, I1, r1, q1⟩ => ?_)
  refine wpAny_Slice ?_
  rw [evalPart_none]
  refine wpAny_pure ?_
  refine wpAny_pure ?_
  refine thn (hk.run pins s1 σ H1 _ I1 q1) fun vk s2 ⟨o, H2, I2, pk, q2⟩ => ?_
  obtain ⟨rfl, a, xs, rfl, hx, q⟩ := q2
  have I4 : Inv X pins σ H2 { s2 with heap := s2.heap.push { cls := .type "slice", data := .fields #[.none, .none, vk] } } := I2.kept (t' := s2.toks) fun b ob q => Heap.get?_push_of_some _ q
  cases r1
  obtain ⟨its, r, ht, hz⟩ := I4.list hx
  have hlen := r.length
  have hs : ({ s2 with heap := s2.heap.push { cls := .type "slice", data := .fields #[.none, .none, vk] } } : Shared).heap.IsSliceOf s2.heap.objs.size .none .none vk := Heap.IsSliceOf.new ..
  have hg : wpAny (model X.prog X.w) X.A (getItem (.ref a) (.ref s2.heap.objs.size)) (EP X pins σ Q) X.xe { s2 with heap := s2.heap.push { cls := .type "slice", data := .fields #[.none, .none, vk] } } := by
    refine wpAny_getItem_list_slice ht.isList hs .none .none pk (by simp) ?_ (by rw [List.size_toArray] <;> omega)
    rw [PySem.W.krv_pick]
    refine ⟨.ref _, _, I4.laid (t' := s2.toks) (o := .lst xs.reverse) (fun b ob q => Heap.get?_push_of_some _ q) (Nat.le_refl _) ?_, rfl, q _ (I4.hok.fresh (Nat.le_refl _))⟩
    exact ⟨by rw [List.length_reverse]; exact hz, _, 0, r.reverse, Heap.get?_push_size _ rfl⟩
  show wpAny (model X.prog X.w) X.A (subscriptTail e (.Slice none none (some st) p2) (.ref a) (.ref s2.heap.objs.size)) (EP X pins σ Q) X.xe _
  exact tail_any (ops := [.ref a, .ref s2.heap.objs.size]) ht.isList.typeIs slot_list_getitem.lookup hg (by with_unfolding_all rfl)
end GR

/-! k52's own defs -/
namespace V52a
open PySem PySem.Spec PyProof.Rows L2 KA KD KL PH PM PA PB PC RM RN QE QF QG QH K52b XT XU
abbrev sMR : Stmt := topS 25
theorem scMR : FnScope ["feed", "entries", "ranges", "table", "entry", "more", "low", "high", "due", "idle", "one"] ["feed", "entries", "ranges"] (defScope sMR) := ⟨rfl, rfl, rfl, by decide +kernel, rfl, by decide +kernel, by decide +kernel⟩
theorem scLaw : FnScope ["script", "k", "feed", "turn", "entries", "table", "ranges", "outer", "inner", "load", "less", "again", "reading"] ["script"] (defScope sLaw) := ⟨rfl, rfl, rfl, by decide +kernel, rfl, by decide +kernel, by decide +kernel⟩
structure Txt (K : PySem.W.Frag) (mg : Str → Option Value) (fCO fRG fTP fIL fBT fSW fMT fPB_ fCN fFE fTA fPI fLO fIV fEN fMR C fIN pO fOF p3 fPH CT fUI fUA fUW : Addr) (dCO dRG dTP dIL dBT dSW dMT dPB_ dCN dFE dTA dPI dLO dIV dEN dMR dIN dOF dPH dUI dUA dUW : FuncData) : Prop where
  FCO : Fun K "contains" "contains" sCont fCO dCO
  gCO : mg "contains" = some (.ref fCO)
  kCO : PySem.W.keepIn K (.ref fCO) = true
  bCO : Binds K dCO ["outer", "inner"] []
  FRG : Fun K "range_of" "range_of" sRng fRG dRG
  gRG : mg "range_of" = some (.ref fRG)
  kRG : PySem.W.keepIn K (.ref fRG) = true
  bRG : Binds K dRG ["one", "other"] []
  FTP : Fun K "turning_points" "turning_points" sTP fTP dTP
  gTP : mg "turning_points" = some (.ref fTP)
  kTP : PySem.W.keepIn K (.ref fTP) = true
  bTP : Binds K dTP ["load"] []
  FIL : Fun K "is_left_out" "is_left_out" sLO fIL dIL
  gIL : mg "is_left_out" = some (.ref fIL)
  kIL : PySem.W.keepIn K (.ref fIL) = true
  bIL : Binds K dIL ["points", "reading"] []
  FBT : Fun K "_lies_between" "_lies_between" sBtw fBT dBT
  gBT : mg "_lies_between" = some (.ref fBT)
  kBT : PySem.W.keepIn K (.ref fBT) = true
  bBT : Binds K dBT ["reading", "before", "after"] []
  FSW : Fun K "swings" "swings" sSw fSW dSW
  gSW : mg "swings" = some (.ref fSW)
  kSW : PySem.W.keepIn K (.ref fSW) = true
  bSW : Binds K dSW ["load"] []
  FMT : Fun K "_may_be_taken" "_may_be_taken" sMT fMT dMT
  gMT : mg "_may_be_taken" = some (.ref fMT)
  kMT : PySem.W.keepIn K (.ref fMT) = true
  bMT : Binds K dMT ["points", "place"] []
  FPB : Fun K "put_behind" "put_behind" sPB fPB_ dPB_
  gPB : mg "put_behind" = some (.ref fPB_)
  kPB : PySem.W.keepIn K (.ref fPB_) = true
  bPB : Binds K dPB_ ["rest", "reading"] []
  FCN : Fun K "_counted" "_counted" sCo fCN dCN
  gCN : mg "_counted" = some (.ref fCN)
  kCN : PySem.W.keepIn K (.ref fCN) = true
  bCN : Binds K dCN ["load"] []
  FFE : Fun K "_law_feed" "_law_feed" sFeed fFE dFE
  gFE : mg "_law_feed" = some (.ref fFE)
  kFE : PySem.W.keepIn K (.ref fFE) = true
  bFE : Binds K dFE ["script", "k"] []
  FTA : Fun K "_law_take" "_law_take" sTake fTA dTA
  gTA : mg "_law_take" = some (.ref fTA)
  kTA : PySem.W.keepIn K (.ref fTA) = true
  bTA : Binds K dTA ["feed", "many"] []
  FPI : Fun K "_law_pick" "_law_pick" sPick fPI dPI
  gPI : mg "_law_pick" = some (.ref fPI)
  kPI : PySem.W.keepIn K (.ref fPI) = true
  bPI : Binds K dPI ["feed", "some"] []
  FLO : Fun K "_law_load" "_law_load" sLoad fLO dLO
  gLO : mg "_law_load" = some (.ref fLO)
  kLO : PySem.W.keepIn K (.ref fLO) = true
  bLO : Binds K dLO ["feed", "most"] []
  FIV : Fun K "_law_interval" "_law_interval" sIv fIV dIV
  gIV : mg "_law_interval" = some (.ref fIV)
  kIV : PySem.W.keepIn K (.ref fIV) = true
  bIV : Binds K dIV ["feed", "most"] []
  FEN : Fun K "_law_entries" "_law_entries" sEn fEN dEN
  gEN : mg "_law_entries" = some (.ref fEN)
  kEN : PySem.W.keepIn K (.ref fEN) = true
  bEN : Binds K dEN ["feed", "most"] []
  FMR : Fun K "_law_more_right" "_law_more_right" sMR fMR dMR
  gMR : mg "_law_more_right" = some (.ref fMR)
  kMR : PySem.W.keepIn K (.ref fMR) = true
  bMR : Binds K dMR ["feed", "entries", "ranges"] []
  gC : mg "Count" = some (.ref C)
  cn : Cnt K C
  mkc : Mk K C fIN
  FIN : Fun K "__init__" "Count.__init__" sInit fIN dIN
  bIN : Binds K dIN ["self", "cycles", "rest"] []
  rd : ClX.CRead K C (.type "type")
  cm : ClX.CMet K C (.type "type") "of" pO fOF
  FOF : Fun K "of" "Count.of" sOf fOF dOF
  bOF : Binds K dOF ["cls", "load"] []
  prH : PropOf K C "half_cycles" p3 fPH
  FPH : Fun K "half_cycles" "Count.half_cycles" sPH fPH dPH
  bPH : Binds K dPH ["self"] []
  gCT : mg "Table" = some (.ref CT)
  tbl : Tbl K CT
  mkT : Mk K CT fUI
  FUI : Fun K "__init__" "Table.__init__" sTI fUI dUI
  bUI : Binds K dUI ["self", "entries"] []
  mUA : Meth K CT "amount" fUA
  FUA : Fun K "amount" "Table.amount" sTA fUA dUA
  bUA : Binds K dUA ["self", "low", "high"] []
  mUW : Meth K CT "wear" fUW
  FUW : Fun K "wear" "Table.wear" sTW fUW dUW
  bUW : Binds K dUW ["self", "ranges"] []
  len : mg "len" = none
  zip : mg "zip" = none
  max : mg "max" = none
  min : mg "min" = none
  abs : mg "abs" = none
  range : mg "range" = none
  sorted : mg "sorted" = none
  tuple : mg "tuple" = none
  sum : mg "sum" = none
theorem make_tab {K : PySem.W.Frag} {CT c x dx : Addr} {H1 : Hp} {xs : List V} {es : List Ent} (hc : H1 c = some (.lst xs)) (tr : TripsAt H1 xs es) (le : es.length ≤ 500) (nx : H1 x = none) (ndx : H1 dx = none) {Q : VK} {E : XK} (q : ∀ H', Same H1 H' → TabAt H' CT x es → Q .non H') :
    spTI K CT [.ref x, .ref c] (upd (upd H1 dx (.own x)) x (.ins CT dx [])) Q E := by
  have k : ∀ b o, H1 b = some o → (upd (upd H1 dx (.own x)) x (.ins CT dx [])) b = some o := fun b o e => by
    rw [upd_ne (fun z => by rw [z, nx] at e; cases e), upd_ne (fun z => by rw [z, ndx] at e; cases e)]
    exact e
  exact ⟨x, c, dx, xs, es, rfl, upd_same, k _ _ hc, tr.map fun p e z => k _ _ z, le, fun H' keep tab => q H' (fun b o e => keep b o (fun z => by rw [z, nx] at e; cases e) (k _ _ e)) tab⟩
theorem pairs_take {H : Hp} : ∀ (n : Nat) {xs : List V} {rs : List (Int × Int)}, PairsAt H xs rs → PairsAt H (xs.take n) (rs.take n)
  | 0, _, _, _ => trivial
  | n + 1, [], [], _ => trivial
  | n + 1, _ :: _, _ :: _, ⟨h1, h⟩ => ⟨h1, pairs_take n h⟩
  | _ + 1, [], _ :: _, h => h.elim
  | _ + 1, _ :: _, [], h => h.elim
theorem pairs_drop {H : Hp} : ∀ (n : Nat) {xs : List V} {rs : List (Int × Int)}, PairsAt H xs rs → PairsAt H (xs.drop n) (rs.drop n)
  | 0, _, _, h => h
  | n + 1, [], [], _ => trivial
  | n + 1, _ :: _, _ :: _, ⟨_, h⟩ => pairs_drop n h
  | _ + 1, [], _ :: _, h => h.elim
  | _ + 1, _ :: _, [], h => h.elim
theorem prs_map {H H' : Hp} (k : ∀ p a b, H p = some (.tup [.int a, .int b]) → H' p = some (.tup [.int a, .int b])) : ∀ {xs : List V} {rs : List (Int × Int)}, PairsAt H xs rs → PairsAt H' xs rs
  | [], [], _ => trivial
  | _ :: _, _ :: _, ⟨⟨p, h1, h2⟩, h⟩ => ⟨⟨p, h1, k p _ _ h2⟩, prs_map k h⟩
  | [], _ :: _, h => h.elim
  | _ :: _, [], h => h.elim
theorem prs_ch {f : Addr} {H H' : Hp} {xs : List V} {rs : List (Int × Int)} (c : Ch f H H') (fe : FeedAt H f) (h : PairsAt H xs rs) : PairsAt H' xs rs := prs_map (fun p a b e => ch_tup c fe e) h
theorem notwhole {a b c : V} : ¬(HT.sIx [a, b, c].length 0 none = 0 ∧ HT.sIx [a, b, c].length [a, b, c].length (some 2) = [a, b, c].length) := by show ¬(HT.sIx 3 0 none = 0 ∧ HT.sIx 3 3 (some 2) = 3); decide
section
variable {P : Program} {w : World} {K : PySem.W.Frag} {mg : Str → Option Value} {base : Heap} {fCO fRG fTP fIL fBT fSW fMT fPB_ fCN fFE fTA fPI fLO fIV fEN fMR C fIN pO fOF p3 fPH CT fUI fUA fUW : Addr} {dCO dRG dTP dIL dBT dSW dMT dPB_ dCN dFE dTA dPI dLO dIV dEN dMR dIN dOF dPH dUI dUA dUW : FuncData}
def spMR (K : PySem.W.Frag) : Sp := fun vs H Q _ => ∃ (f e r : Addr) (xs zs : List V) (es : List Ent) (rs : List (Int × Int)), vs = [.ref f, .ref e, .ref r] ∧ FeedAt H f ∧ H e = some (.lst xs) ∧ e ≠ f ∧ TripsAt H xs es ∧ Good es ∧ es.length ≤ 6 ∧ H r = some (.lst zs) ∧ r ≠ f ∧ PairsAt H zs rs ∧ rs.length ≤ 10 ∧ ∀ H', Ch f H H' → FeedAt H' f → Q (.bl true) H'
theorem ok_mr {f0 : Addr} {fd : FuncData} (F : Fun K "_law_more_right" "_law_more_right" sMR f0 fd) (T : Txt K mg fCO fRG fTP fIL fBT fSW fMT fPB_ fCN fFE fTA fPI fLO fIV fEN fMR C fIN pO fOF p3 fPH CT fUI fUA fUW dCO dRG dTP dIL dBT dSW dMT dPB_ dCN dFE dTA dPI dLO dIV dEN dMR dIN dOF dPH dUI dUA dUW) : FnOk P w K mg base CX0 4 f0 fd ["feed", "entries", "ranges"] (spMR K) := by
  have GCO : FnOk P w K mg base CX0 1 fCO dCO ["outer", "inner"] (spCont K) := ok_Cont T.FCO
  have GTA : FnOk P w K mg base CX0 1 fTA dTA ["feed", "many"] spTake := ok_take T.FTA
  have GPI : FnOk P w K mg base CX0 2 fPI dPI ["feed", "some"] (spPick K) := ok_pick T.FPI T.FTA T.gTA T.bTA T.len
  have GIV : FnOk P w K mg base CX0 2 fIV dIV ["feed", "most"] spIv := ok_iv T.FIV GTA T.gTA T.kTA T.bTA
  have GUI : FnOk P w K mg base CX0 1 fUI dUI ["self", "entries"] (spTI K CT) := ok_TI T.FUI T.tbl T.tuple
  have GUA : FnOk P w K mg base CX0 2 fUA dUA ["self", "low", "high"] (spTA CT) := ok_TA T.FUA T.tbl T.max
  refine F.ok scMR (fun vs H Q E h => ?_) (fun cdv A outer s H vs Q E hr h => ?_)
  · obtain ⟨f, e, r, xs, zs, es, rs, rfl, _⟩ := h
    rfl
  · obtain ⟨f, e, r, xs, zs, es, rs, rfl, fe, he, nef, tr, good, le, hR, nrf, pa, lr, hq⟩ := h
    have h3 := hr.mono (show 3 ≤ 3 by decide)
    have h2 := hr.mono (show 2 ≤ 3 by decide)
    have hr2 := hr.mono (show 1 + 1 ≤ 3 by decide)
    have h1 := hr.mono (show 1 ≤ 3 by decide)
    refine ⟨_, (pss_cons (ps_asg (pe_tup (pa_cons (pe_make T.mkT GUI hr2 (by rfl) T.gCT T.bUI .nil pass0 (pa_cons (pv 1) pa_nil)) (pa_cons (pe_op op_catT (pe_call GIV h2 (by rfl) T.gIV T.kIV T.bIV .nil pass0 (pa_cons (pv 0) (pa_cons pe_int pa_nil))) (pe_tup (pa_cons (pe_call GTA h1 (by rfl) T.gTA T.kTA T.bTA .nil pass0 (pa_cons (pv 0) (pa_cons pe_int pa_nil))) pa_nil))) pa_nil))) (pg_tup rfl (pgs_cons (pg_name (i := 3) scMR.nd rfl (.inr rfl)) (pgs_cons (pg_name (i := 4) scMR.nd rfl (.inl rfl)) pgs_nil))))
      (pss_cons (ps_set (i := 5) scMR.nd rfl (.inl rfl) (pe_make T.mkT GUI hr2 (by rfl) T.gCT T.bUI .nil pass0 (pa_cons (pe_op op_cat (pv 1) (pe_lst (pa_cons (pv 4) pa_nil))) pa_nil)))
      (pss_cons (ps_for PassesOwn.never rfl (pi_list (pv 2)) (pg_tup rfl (pgs_cons (pg_name (i := 6) scMR.nd rfl (.inl rfl)) (pgs_cons (pg_name (i := 7) scMR.nd rfl (.inl rfl)) pgs_nil)))
      (pss_cons (ps_set (i := 8) scMR.nd rfl (.inl rfl) (pe_meth (pv 3) T.tbl.cl T.mUA GUA h2 T.bUA .nil pass0 (pa_cons (pv 6) (pa_cons (pv 7) pa_nil))))
      (pss_cons (ps_if (pt_val (pe_call GCO h1 (by rfl) T.gCO T.kCO T.bCO .nil pass0 (pa_cons (pe_tup (pa_cons (pv 6) (pa_cons (pv 7) pa_nil))) (pa_cons (pe_slice sl_tup (pv 4) po_none (po_some pe_int)) pa_nil)))) (pss_one (ps_set (i := 8) scMR.nd rfl (.inl rfl) (pe_callB (call_max2 rfl) (by rfl) T.max (by decide +kernel) (pa_cons (pv 8) (pa_cons (pe_ix ix_tup (pv 4) pe_int (fun _ _ => rfl)) pa_nil))))) pss_nil)
      (pss_one (ps_if (pt_cmpR op_ne (pe_meth (pv 5) T.tbl.cl T.mUA GUA h2 T.bUA .nil pass0 (pa_cons (pv 6) (pa_cons (pv 7) pa_nil))) (pv 8) (nomark _)) (pss_one (ps_ret pe_bl)) pss_nil)))))
      (pss_cons (ps_set (i := 9) scMR.nd rfl (.inr rfl) (pe_make T.mkT GUI hr2 (by rfl) T.gCT T.bUI .nil pass0 (pa_cons (pe_op op_cat (pe_op op_cat (GR.pe_back (pv 1) (po_some (pe_un un_neg pe_int))) (pv 1)) (pe_lst (pa_cons (pe_op op_catT (pe_call GIV h2 (by rfl) T.gIV T.kIV T.bIV .nil pass0 (pa_cons (pv 0) (pa_cons pe_int pa_nil))) (pe_tup (pa_cons pe_int pa_nil))) pa_nil))) pa_nil)))
      (pss_one (ps_ret (pe_cmpR (op_eqD hr.units) (pe_lc (own := [("one", 10)]) (g := gName 10) (tt := tTest (tOp rNe (tMeth CT "amount" (spTA CT) [] E0 (tVar 9) (tCons (tOp (rIxT K) (tVar 10) (tC (V.int 0))) (tCons (tOp (rIxT K) (tVar 10) (tC (V.int 1))) tNil))) (tMeth CT "amount" (spTA CT) [] E0 (tVar 3) (tCons (tOp (rIxT K) (tVar 10) (tC (V.int 0))) (tCons (tOp (rIxT K) (tVar 10) (tC (V.int 1))) tNil))))) (te := tVar 10) rfl scMR.nd (pi_list (pv 2)) (blkOk_by (own := [("one", 10)]) (N := ["feed", "entries", "ranges", "table", "entry", "more", "low", "high", "due", "idle", "one"]) (sc := defScope sMR) (by decide +kernel)) (fun _ _ _ _ _ => (pg_name (i := 10) scMR.nd rfl (Or.inl rfl) (Or.inr rfl))) (fun _ _ _ _ _ => (pts_one (pt_cmpR op_ne (pe_meth (pv 9) T.tbl.cl T.mUA GUA h2 T.bUA .nil pass0 (pa_cons (pe_ix ix_tup (pv 10) pe_int (fun _ _ => rfl)) (pa_cons (pe_ix ix_tup (pv 10) pe_int (fun _ _ => rfl)) pa_nil))) (pe_meth (pv 3) T.tbl.cl T.mUA GUA h2 T.bUA .nil pass0 (pa_cons (pe_ix ix_tup (pv 10) pe_int (fun _ _ => rfl)) (pa_cons (pe_ix ix_tup (pv 10) pe_int (fun _ _ => rfl)) pa_nil))) (nomark _)))) (fun _ _ _ _ _ => (pv 10))) (pe_lst pa_nil) (nomark _)))))))), ?_⟩
    have l2 : 2 ≤ sizeLine := by decide
    have lx := tr.length
    -- table, entry
    refine ⟨.ref e, rfl, fun x dx nx ndx nd => make_tab he tr (by omega) nx ndx fun H1 s1 tab => ⟨rfl, ?_⟩⟩
    have fe1 := fe.same s1
    refine ⟨.ref f, rfl, f, 10, rfl, by decide, by decide, fe1, fun H2 p lo0 hi0 c2 fe2 np ep lh => ⟨.ref f, rfl, f, 60, rfl, by decide, by decide, fe2, fun H3 t c3 fe3 t0 t1 => ⟨by show 1 ≤ sizeLine; decide, fun q nq => ?_⟩⟩⟩
    have sq := same_new (o := .tup [.int t]) nq
    have ep3 := sq _ _ (ch_tup c3 fe2 ep)
    refine ⟨p, q, [.int lo0, .int hi0], [.int t], rfl, rfl, SqT.of ep3, SqT.of upd_same, by simp, by show 3 ≤ sizeLine; decide, fun h => absurd h (by simp), fun _ en nen => ⟨l2, fun w nw => ?_⟩⟩
    have sen := same_new (o := .tup ([.int lo0, .int hi0] ++ [.int t])) nen
    have sw := same_new (o := .tup [.ref x, .ref en]) nw
    have hen := sw _ _ (upd_same (H := upd H3 q (.tup [.int t])) (a := en) (o := .tup ([.int lo0, .int hi0] ++ [.int t])))
    have c4 : Ch f H1 (upd (upd (upd H3 q (.tup [.int t])) en (.tup ([.int lo0, .int hi0] ++ [.int t]))) w (.tup [.ref x, .ref en])) := (c2.trans c3).trans (Ch.of_same (sq.trans (sen.trans sw)))
    have fe4 := fe3.same (sq.trans (sen.trans sw))
    refine ⟨w, _, rfl, SqT.of upd_same, rfl, .ref x, [.ref en], rfl, .ref en, [], rfl, rfl, ?_⟩
    generalize upd (upd (upd H3 q (.tup [.int t])) en (.tup ([.int lo0, .int hi0] ++ [.int t]))) w (.tup [.ref x, .ref en]) = H4 at hen c4 fe4 ⊢
    have he4 := c4 _ _ nef (s1 _ _ he)
    have hR4 := c4 _ _ nrf (s1 _ _ hR)
    have tr4 := (tr.same s1).ch c4 (fe_lst fe1)
    have pa4 := prs_ch c4 fe1 (pa.same s1)
    have tab4 := tab.ch c4 (fe_lst fe1)
    have c04 : Ch f H H4 := (Ch.of_same s1).trans c4
    clear sq sen sw ep3 c2 c3 fe2 fe3 ep nq nen nw np tab fe1 c4 s1 nx ndx nd
    have hen : H4 en = some (tri (lo0, hi0, t)) := hen
    -- more
    refine ⟨.ref e, rfl, .ref en, rfl, by show 1 ≤ sizeLine; decide, fun l nl => ?_⟩
    have sl := same_new (o := .lst [.ref en]) nl
    refine ⟨e, l, xs, _, rfl, rfl, sl _ _ he4, upd_same, Nat.le_trans (show xs.length + 1 ≤ 3000 by omega) (by decide), fun d nd => ?_⟩
    have sd := same_new (o := .lst (xs ++ [.ref en])) nd
    have s5 := sl.trans sd
    refine fun y dy ny ndy _ => make_tab upd_same ((tr4.same s5).app (trips_one (e := (lo0, hi0, t)) (s5 _ _ hen))) (by rw [List.length_append]; show es.length + 1 ≤ 500; omega) ny ndy fun H5 s6 tabY => ⟨rfl, ?_⟩
    have s7 := s5.trans s6
    have he5 := s7 _ _ he4
    have hR5 := s7 _ _ hR4
    have tr5 := tr4.same s7
    have pa5 := pa4.same s7
    have tab5 := tab4.same s7
    have fe5 := fe4.same s7
    have hen5 := s7 _ _ hen
    have c05 := c04.trans (Ch.of_same s7)
    have ge : lo0 < hi0 ∧ 0 ≤ t := ⟨lh, t0⟩
    clear sl sd s5 s6 s7 he4 hR4 tr4 pa4 tab4 fe4 hen c04 nl nd ny ndy
    -- for low, high
    refine ⟨.ref r, rfl, r, rfl, ⟨_, SqL.of hR5⟩, for_list (K := K) (a := r) (xs := zs) (fun _ σ Hz => Same H5 Hz ∧ ∃ r6 r7 r8 r9 r10 : Option V, σ = [some (.ref f), some (.ref e), some (.ref r), some (.ref x), some (.ref en), some (.ref y), r6, r7, r8, r9, r10]) ⟨Same.refl _, _, _, _, _, _, rfl⟩ (fun _ _ _ _ z => SqL.of (z.1 _ _ hR5)) ?_ ?_⟩
    · rintro i z σ Hz hz ⟨sz, r6, r7, r8, r9, r10, rfl⟩
      obtain ⟨pz, rg, rfl, er, hp⟩ := pairs_get pa5 hz
      obtain ⟨dx, tx, yx, hx, _⟩ := id (tab5.same sz)
      obtain ⟨dy, ty, yy, hy, _⟩ := id (tabY.same sz)
      refine ⟨pz, _, rfl, SqT.of (sz _ _ hp), rfl, .int rg.1, [.int rg.2], rfl, .int rg.2, [], rfl, rfl, ?_⟩
      refine ⟨.ref x, rfl, x, dx, _, rfl, hx, rfl, .int rg.1, rfl, .int rg.2, rfl, x, es, rg.1, rg.2, rfl, tab5.same sz, by omega, fun H6 s6 => ?_⟩
      have s56 := sz.trans s6
      refine ⟨.int rg.1, rfl, .int rg.2, rfl, l2, fun q nq => ⟨.ref en, rfl, 2, rfl, en, _, rfl, SqT.of ((same_new nq) _ _ (s56 _ _ hen5)), notwhole, fun r2 nr2 => ?_⟩⟩
      rw [show (some (2 : Int)) = some ((2 : Nat) : Int) from rfl, cutv_to]
      have sq := same_new (o := .tup [.int rg.1, .int rg.2]) nq
      have sr := same_new (o := .tup ([V.int lo0, .int hi0, .int t].take 2)) nr2
      have s58 := s56.trans (sq.trans sr)
      refine ⟨q, r2, rg.1, rg.2, lo0, hi0, rfl, SqT.of (sr _ _ upd_same), SqT.of upd_same, _, rfl, ?_⟩
      have ap := amt_app good (e := (lo0, hi0, t)) ge rg.1 rg.2
      have lap : (es ++ [(lo0, hi0, t)]).length ≤ 500 := by rw [List.length_append]; show es.length + 1 ≤ 500; omega
      refine ite2 (fun hh => ?_) (fun hh => ?_)
      · rw [if_pos hh] at ap
        refine ⟨.int (amt es rg.1 rg.2), rfl, .ref en, rfl, en, _, 2, .int t, rfl, rfl, SqT.of (s58 _ _ hen5), rfl, amt es rg.1 rg.2, t, rfl, ?_⟩
        refine ⟨.ref y, rfl, y, dy, _, rfl, (s6.trans (sq.trans sr)) _ _ hy, rfl, .int rg.1, rfl, .int rg.2, rfl, y, es ++ [(lo0, hi0, t)], rg.1, rg.2, rfl, tabY.same s58, lap, fun H9 s9 => ⟨_, rfl, rfl, _, rfl, iteNS (by rw [ap]) ⟨s58.trans s9, _, _, _, _, _, rfl⟩⟩⟩
      · rw [if_neg hh] at ap
        refine ⟨.ref y, rfl, y, dy, _, rfl, (s6.trans (sq.trans sr)) _ _ hy, rfl, .int rg.1, rfl, .int rg.2, rfl, y, es ++ [(lo0, hi0, t)], rg.1, rg.2, rfl, tabY.same s58, lap, fun H9 s9 => ⟨_, rfl, rfl, _, rfl, iteNS (by rw [ap]) ⟨s58.trans s9, _, _, _, _, _, rfl⟩⟩⟩
    rintro σ H6 ⟨s6, r6, r7, r8, r9, r10, rfl⟩
    have he6 := s6 _ _ he5
    have hR6 := s6 _ _ hR5
    have tr6 := tr5.same s6
    have pa6 := pa5.same s6
    have tab6 := tab5.same s6
    have fe6 := fe5.same s6
    have c06 := c05.trans (Ch.of_same s6)
    clear he5 hR5 tr5 pa5 tab5 fe5 c05 tabY hen5 s6
    -- idle
    refine ⟨.ref e, rfl, 1, rfl, -1, rfl, rfl, e, xs, rfl, SqL.of he6, fun b nb => ⟨.ref e, rfl, b, e, _, _, rfl, rfl, upd_same, (same_new nb) _ _ he6, by rw [List.length_reverse]; exact Nat.le_trans (show xs.length + xs.length ≤ 3000 by omega) (by decide), fun d nd => ?_⟩⟩
    have s7 := (same_new (o := .lst xs.reverse) nb).trans (same_new (o := .lst (xs.reverse ++ xs)) nd)
    have ed := upd_same (H := upd H6 b (.lst xs.reverse)) (a := d) (o := .lst (xs.reverse ++ xs))
    have fe7 := fe6.same s7
    have ndf : d ≠ f := (fe6.same (same_new (o := .lst xs.reverse) nb)).ne nd
    have tr7 := tr6.same s7
    generalize upd (upd H6 b (.lst xs.reverse)) d (.lst (xs.reverse ++ xs)) = H7 at s7 ed fe7 tr7 ⊢
    refine ⟨.ref f, rfl, f, 10, rfl, by decide, by decide, fe7, fun H8 p lo hi c8 fe8 np ep lh2 => ⟨by show 1 ≤ sizeLine; decide, fun q nq => ?_⟩⟩
    have sq := same_new (o := .tup [.int 0]) nq
    refine ⟨p, q, [.int lo, .int hi], [.int 0], rfl, rfl, SqT.of (sq _ _ ep), SqT.of upd_same, by simp, by show 3 ≤ sizeLine; decide, fun h => absurd h (by simp), fun _ z nz => ⟨by show 1 ≤ sizeLine; decide, fun l nl => ?_⟩⟩
    have sz := same_new (o := .tup ([.int lo, .int hi] ++ [.int 0])) nz
    have sl := same_new (o := .lst [.ref z]) nl
    have hz : (upd (upd H8 q (.tup [.int 0])) z (.tup ([.int lo, .int hi] ++ [.int 0]))) z = some (tri (lo, hi, 0)) := upd_same
    have c9 := c8.trans (Ch.of_same (sq.trans (sz.trans sl)))
    have tr9 := tr7.ch c9 (fe_lst fe7)
    have fe9 := fe8.same (sq.trans (sz.trans sl))
    refine ⟨d, l, _, _, rfl, rfl, c9 _ _ ndf ed, upd_same, by rw [List.length_append, List.length_reverse]; exact Nat.le_trans (show xs.length + xs.length + 1 ≤ 3000 by omega) (by decide), fun m nm => ?_⟩
    have sm := same_new (o := .lst (xs.reverse ++ xs ++ [.ref z])) nm
    have trm := ((tr9.rev.app tr9).app (trips_one (e := (lo, hi, 0)) (sl _ _ hz))).same sm
    refine fun id0 di nid ndi _ => make_tab upd_same trm (by rw [List.length_append, List.length_append, List.length_reverse]; show es.length + es.length + 1 ≤ 500; omega) nid ndi fun Ha sa tabI => ⟨rfl, ?_⟩
    have sma := sm.trans sa
    have cA := c9.trans (Ch.of_same sma)
    have hRa := cA _ _ nrf (s7 _ _ hR6)
    have paA := prs_ch cA fe7 (pa6.same s7)
    have tabA := (tab6.same s7).ch cA (fe_lst fe7)
    have feA := fe9.same sma
    have c0A := (c06.trans (Ch.of_same s7)).trans cA
    clear he6 hR6 tr6 pa6 tab6 fe6 c06 s7 ed fe7 tr7 c8 fe8 sq sz sl hz c9 tr9 fe9 sm trm sa sma cA
    have idle := amt_idle good (e := (lo, hi, 0)) ⟨lh2, rfl⟩
    -- the ranges that differ
    have lidle : (es.reverse ++ es ++ [(lo, hi, 0)]).length ≤ 500 := by rw [List.length_append, List.length_append, List.length_reverse]; show es.length + es.length + 1 ≤ 500; omega
    refine ⟨.ref r, rfl, r, rfl, ⟨_, SqL.of hRa⟩, fun D nD => ?_⟩
    refine lc_list (K := K) (a := r) (xs := zs) (fun _ Hz => Same Ha Hz ∧ Hz D = some (.lst [])) ⟨same_new nD, upd_same⟩ (fun _ _ _ z => SqL.of (z.1 _ _ hRa)) ?_ ?_
    · rintro i z Hz hz ⟨sz, eD⟩
      obtain ⟨pz, rg, rfl, er, hp⟩ := pairs_get paA hz
      obtain ⟨dx, tx, yx, hx, _⟩ := id (tabA.same sz)
      obtain ⟨dy, ty, yy, hy, _⟩ := id (tabI.same sz)
      have hpz := sz _ _ hp
      refine ⟨rfl, .ref id0, rfl, id0, dy, _, rfl, hy, rfl, .ref pz, rfl, pz, _, 0, .int rg.1, rfl, rfl, SqT.of hpz, rfl, .ref pz, rfl, pz, _, 1, .int rg.2, rfl, rfl, SqT.of hpz, rfl, id0, _, rg.1, rg.2, rfl, tabI.same sz, lidle, fun Hb sb => ?_⟩
      have hpb := sb _ _ hpz
      refine ⟨.ref x, rfl, x, dx, _, rfl, sb _ _ hx, rfl, .ref pz, rfl, pz, _, 0, .int rg.1, rfl, rfl, SqT.of hpb, rfl, .ref pz, rfl, pz, _, 1, .int rg.2, rfl, rfl, SqT.of hpb, rfl, x, es, rg.1, rg.2, rfl, (tabA.same sz).same sb, by omega, fun Hc sc => ?_⟩
      exact ⟨rfl, _, rfl, iteNS (by rw [idle]) ⟨sz.trans (sb.trans sc), sc _ _ (sb _ _ eD)⟩⟩
    rintro Hz ⟨sz, eD⟩
    refine ⟨Nat.zero_le _, fun e1 ne1 => ?_⟩
    have s1 := same_new (o := .lst []) ne1
    refine ⟨.list (dInts []), .list (dInts []), .lst (SqL.of (s1 _ _ eD)) (dp_ints []), .lst (SqL.of upd_same) (dp_ints []), shaped_lst [], shaped_lst [], ?_⟩
    rw [eqv_same (shaped_lst [])]
    exact hq _ (c0A.trans (Ch.of_same (sz.trans s1))) (feA.same (sz.trans s1))
end
end V52a

/-! the law of k52 -/
namespace V52
open PySem PySem.Spec PyProof.Rows L2 KA KD KL PH PM PA PB PC RM RN QE QF QG QH K52b XT XU V52a
section
variable {P : Program} {w : World} {K : PySem.W.Frag} {mg : Str → Option Value} {base : Heap} {fCO fRG fTP fIL fBT fSW fMT fPB_ fCN fFE fTA fPI fLO fIV fEN fMR C fIN pO fOF p3 fPH CT fUI fUA fUW : Addr} {dCO dRG dTP dIL dBT dSW dMT dPB_ dCN dFE dTA dPI dLO dIV dEN dMR dIN dOF dPH dUI dUA dUW : FuncData}
def spLaw (K : PySem.W.Frag) : Sp := fun vs H Q _ => ∃ (a : Addr) (ns : List Int), vs = [.ref a] ∧ SqL K H a (ns.map V.int) ∧ ns.length ≤ 63 ∧ ∀ H', Q (.bl true) H'
theorem ok_law {f0 : Addr} {fd : FuncData} (F : Fun K "law" "law" sLaw f0 fd) (T : Txt K mg fCO fRG fTP fIL fBT fSW fMT fPB_ fCN fFE fTA fPI fLO fIV fEN fMR C fIN pO fOF p3 fPH CT fUI fUA fUW dCO dRG dTP dIL dBT dSW dMT dPB_ dCN dFE dTA dPI dLO dIV dEN dMR dIN dOF dPH dUI dUA dUW) : KW.Kept P w K mg base 8 f0 fd ["script"] (spLaw K) := by
  have GCO : FnOk P w K mg base CX0 1 fCO dCO ["outer", "inner"] (spCont K) := ok_Cont T.FCO
  have GTA : FnOk P w K mg base CX0 1 fTA dTA ["feed", "many"] spTake := ok_take T.FTA
  have GPI : FnOk P w K mg base CX0 2 fPI dPI ["feed", "some"] (spPick K) := ok_pick T.FPI T.FTA T.gTA T.bTA T.len
  have GIV : FnOk P w K mg base CX0 2 fIV dIV ["feed", "most"] spIv := ok_iv T.FIV GTA T.gTA T.kTA T.bTA
  have GUI : FnOk P w K mg base CX0 1 fUI dUI ["self", "entries"] (spTI K CT) := ok_TI T.FUI T.tbl T.tuple
  have GUA : FnOk P w K mg base CX0 2 fUA dUA ["self", "low", "high"] (spTA CT) := ok_TA T.FUA T.tbl T.max
  have GRG : FnOk P w K mg base CX0 1 fRG dRG ["one", "other"] spRng := ok_Rng T.FRG T.min T.max
  have GIL : FnOk P w K mg base CX0 2 fIL dIL ["points", "reading"] (spLO K) := ok_LO T.FIL T.FBT T.gBT T.bBT T.len
  have GTP0 : FnOk P w K mg base CX0 3 fTP dTP ["load"] (spTP K) := both (ok_TPl T.FTP GIL T.gIL T.kIL T.bIL T.tuple) (ok_TPt T.FTP GIL T.gIL T.kIL T.bIL T.tuple)
  have GTP : FnOk P w K mg base CX0 3 fTP dTP ["load"] (spTPq K) := tpq_of GTP0
  have GSW : FnOk P w K mg base CX0 4 fSW dSW ["load"] (spSw K) := ok_sw T.FSW GTP0 T.gTP T.kTP T.bTP (GRG.mono (by decide)) T.gRG T.kRG T.bRG T.zip
  have GMT : FnOk P w K mg base CX0 2 fMT dMT ["points", "place"] (spMT K) := ok_MT T.FMT T.abs
  have GPB_ : FnOk P w K mg base CX0 3 fPB_ dPB_ ["rest", "reading"] spPB := ok_PB T.FPB GIL T.gIL T.kIL T.bIL GMT T.gMT T.kMT T.bMT (GRG.mono (by decide)) T.gRG T.kRG T.bRG T.len
  have GCN : FnOk P w K mg base CX0 4 fCN dCN ["load"] (spCo K) := ok_Co T.FCN GPB_ T.gPB T.kPB T.bPB
  have GIN : FnOk P w K mg base CX0 1 fIN dIN ["self", "cycles", "rest"] (spInit K C) := ok_init T.FIN T.cn T.sorted T.tuple
  have GOF : FnOk P w K mg base CX0 5 fOF dOF ["cls", "load"] (spOf K C) := ok_of T.FOF T.mkc (GIN.mono (by decide)) T.bIN GCN T.gCN T.kCN T.bCN
  have GPH : FnOk P w K mg base CX0 5 fPH dPH ["self"] (spPH C) := ok_PH T.FPH T.cn GSW T.gSW T.kSW T.bSW T.sorted T.tuple
  have GFE : FnOk P w K mg base CX0 1 fFE dFE ["script", "k"] (spFeed K) := ok_feed T.FFE T.len T.max T.abs
  have GLO : FnOk P w K mg base CX0 3 fLO dLO ["feed", "most"] spLoad := ok_load T.FLO T.FTA T.gTA T.bTA T.FPI T.gPI T.bPI T.len T.range T.min
  have GEN : FnOk P w K mg base CX0 3 fEN dEN ["feed", "most"] (spEn K) := ok_en T.FEN GTA T.gTA T.kTA T.bTA GIV T.gIV T.kIV T.bIV GPI T.gPI T.kPI T.bPI T.range
  have GUW : FnOk P w K mg base CX0 3 fUW dUW ["self", "ranges"] (fun vs H Q E => spTWl K CT vs H Q E ∨ spTWt K CT vs H Q E) := both (ok_TWl T.FUW T.tbl T.mUA GUA T.bUA T.sum) (ok_TWt T.FUW T.tbl T.mUA GUA T.bUA T.sum)
  have GMR : FnOk P w K mg base CX0 4 fMR dMR ["feed", "entries", "ranges"] (spMR K) := ok_mr T.FMR T
  have GCO := GCO.mono (show 1 ≤ 7 by decide)
  have GTA := GTA.mono (show 1 ≤ 7 by decide)
  have GPI := GPI.mono (show 2 ≤ 7 by decide)
  have GIV := GIV.mono (show 2 ≤ 7 by decide)
  have GUI := GUI.mono (show 1 ≤ 6 by decide)
  have GUA := GUA.mono (show 2 ≤ 7 by decide)
  have GRG := GRG.mono (show 1 ≤ 7 by decide)
  have GIL := GIL.mono (show 2 ≤ 7 by decide)
  have GTP0 := GTP0.mono (show 3 ≤ 7 by decide)
  have GTP := GTP.mono (show 3 ≤ 7 by decide)
  have GSW := GSW.mono (show 4 ≤ 7 by decide)
  have GMT := GMT.mono (show 2 ≤ 7 by decide)
  have GPB_ := GPB_.mono (show 3 ≤ 7 by decide)
  have GCN := GCN.mono (show 4 ≤ 7 by decide)
  have GIN := GIN.mono (show 1 ≤ 7 by decide)
  have GOF := GOF.mono (show 5 ≤ 7 by decide)
  have GPH := GPH.mono (show 5 ≤ 6 by decide)
  have GFE := GFE.mono (show 1 ≤ 7 by decide)
  have GLO := GLO.mono (show 3 ≤ 7 by decide)
  have GEN := GEN.mono (show 3 ≤ 7 by decide)
  have GUW := GUW.mono (show 3 ≤ 7 by decide)
  have GMR := GMR.mono (show 4 ≤ 7 by decide)
  refine KW.kept_of F scLaw (fun vs H Q E h => ?_) (fun cdv A outer s H vs Q E hgA hr h => ?_)
  · obtain ⟨a, ns, rfl, _⟩ := h
    rfl
  · obtain ⟨a, ns, rfl, hS, hlen, q⟩ := h
    have h5 := hr
    have h4 := hr
    have h3 := hr
    have h2 := hr
    have hr2 := hr
    have h1 := hr
    refine ⟨_, (pss_cons (ps_for PassesOwn.never rfl (pi_range1 rfl T.range (pa_cons (pe_callB (call_max2 rfl) (by rfl) T.max (by decide +kernel) (pa_cons pe_int (pa_cons (pe_callB (call_min2 rfl) (by rfl) T.min (by decide +kernel) (pa_cons pe_int (pa_cons (pe_callB call_len_seq (by rfl) T.len PySem.boot_len (pa_cons (pv 0) pa_nil)) pa_nil))) pa_nil))) pa_nil)) (pg_name (i := 1) scLaw.nd rfl (.inl rfl))
      (pss_cons (ps_set (i := 2) scLaw.nd rfl (.inr rfl) (pe_call GFE h1 (by rfl) T.gFE T.kFE T.bFE .nil pass0 (pa_cons (pv 0) (pa_cons (pv 1) pa_nil))))
      (pss_one (ps_for PassesOwn.never rfl (pi_range1 rfl T.range (pa_cons pe_int pa_nil)) (pg_name (i := 3) scLaw.nd rfl (.inl rfl))
      (pss_cons (ps_set (i := 4) scLaw.nd rfl (.inl rfl) (pe_call GEN h3 (by rfl) T.gEN T.kEN T.bEN .nil pass0 (pa_cons (pv 2) (pa_cons pe_int pa_nil))))
      (pss_cons (ps_set (i := 5) scLaw.nd rfl (.inl rfl) (pe_make T.mkT GUI hr2 (by rfl) T.gCT T.bUI .nil pass0 (pa_cons (pv 4) pa_nil)))
      (pss_cons (ps_setLc (i := 6) (own := [("again", 11)]) (g := gName 11)   rfl scLaw.nd rfl rfl (sw_true rfl rfl rfl (by decide +kernel)) (pi_range1 rfl T.range (pa_cons pe_int pa_nil)) (blkOk_by (own := [("again", 11)]) (N := ["script", "k", "feed", "turn", "entries", "table", "ranges", "outer", "inner", "load", "less", "again", "reading"]) (sc := defScope sLaw) (by decide +kernel)) (fun _ _ _ _ _ => (pg_name (i := 11) scLaw.nd rfl (Or.inl rfl) (Or.inr rfl))) (fun _ _ _ _ _ => pts_nil) (fun _ _ _ _ _ => (pe_call GIV h2 (by rfl) T.gIV T.kIV T.bIV .nil pass0 (pa_cons (pv 2) (pa_cons pe_int pa_nil)))))
      (pss_cons (ps_for PassesOwn.never rfl (pi_list (pv 6)) (pg_name (i := 7) scLaw.nd rfl (.inl rfl))
      (pss_one (ps_for PassesOwn.never rfl (pi_list (pv 6)) (pg_name (i := 8) scLaw.nd rfl (.inl rfl))
      (pss_one (ps_if (pt_val (pe_call GCO h1 (by rfl) T.gCO T.kCO T.bCO .nil pass0 (pa_cons (pv 7) (pa_cons (pv 8) pa_nil)))) (pss_one (ps_if (pt_cmpR op_lt (pe_meth (pv 5) T.tbl.cl T.mUA GUA h2 T.bUA .nil pass0 (pa_cons (pe_ix ix_tup (pv 7) pe_int (fun _ _ => rfl)) (pa_cons (pe_ix ix_tup (pv 7) pe_int (fun _ _ => rfl)) pa_nil))) (pe_meth (pv 5) T.tbl.cl T.mUA GUA h2 T.bUA .nil pass0 (pa_cons (pe_ix ix_tup (pv 8) pe_int (fun _ _ => rfl)) (pa_cons (pe_ix ix_tup (pv 8) pe_int (fun _ _ => rfl)) pa_nil))) (nomark _)) (pss_one (ps_ret pe_bl)) pss_nil)) pss_nil)))))
      (pss_cons (ps_if (pt_not (pt_val (pe_call GMR h4 (by rfl) T.gMR T.kMR T.bMR .nil pass0 (pa_cons (pv 2) (pa_cons (pv 4) (pa_cons (pv 6) pa_nil)))))) (pss_one (ps_ret pe_bl)) pss_nil)
      (pss_cons (ps_if (pt_cmpR op_ne (pe_meth (pv 5) T.tbl.cl T.mUW GUW h3 T.bUW .nil pass0 (pa_cons (pv 6) pa_nil)) (pe_op op_add (pe_meth (pv 5) T.tbl.cl T.mUW GUW h3 T.bUW .nil pass0 (pa_cons (pe_slice sl_list (pv 6) po_none (po_some pe_int)) pa_nil)) (pe_meth (pv 5) T.tbl.cl T.mUW GUW h3 T.bUW .nil pass0 (pa_cons (pe_slice sl_list (pv 6) (po_some pe_int) po_none) pa_nil))) (nomark _)) (pss_one (ps_ret pe_bl)) pss_nil)
      (pss_cons (ps_set (i := 9) scLaw.nd rfl (.inl rfl) (pe_call GLO h3 (by rfl) T.gLO T.kLO T.bLO .nil pass0 (pa_cons (pv 2) (pa_cons pe_int pa_nil))))
      (pss_cons (ps_setLc (i := 10) (own := [("reading", 12)]) (g := gName 12)   rfl scLaw.nd rfl rfl (sw_true rfl rfl rfl (by decide +kernel)) (pi_list (pv 9)) (blkOk_by (own := [("reading", 12)]) (N := ["script", "k", "feed", "turn", "entries", "table", "ranges", "outer", "inner", "load", "less", "again", "reading"]) (sc := defScope sLaw) (by decide +kernel)) (fun _ _ _ _ _ => (pg_name (i := 12) scLaw.nd rfl (Or.inl rfl) (Or.inr rfl))) (fun _ _ _ _ _ => (pts_one (pt_cmpR op_gt (pe_call GTA h1 (by rfl) T.gTA T.kTA T.bTA .nil pass0 (pa_cons (pv 2) (pa_cons pe_int pa_nil))) pe_int (nomark _)))) (fun _ _ _ _ _ => (pv 12)))
      (pss_one (ps_if (pt_cmpR op_gt (pe_meth (pv 5) T.tbl.cl T.mUW GUW h3 T.bUW .nil pass0 (pa_cons (pe_prop (ClX.pe_cmeth (pe_glob (v := .ref C) (by rfl) T.gC rfl) T.rd T.cm (GOF.raw T.bOF .nil) h4 pass0 (pa_cons (pv 10) pa_nil)) T.cn.cl T.prH GPH h5 T.bPH .nil pass0 (by rfl)) pa_nil)) (pe_meth (pv 5) T.tbl.cl T.mUW GUW h3 T.bUW .nil pass0 (pa_cons (pe_prop (ClX.pe_cmeth (pe_glob (v := .ref C) (by rfl) T.gC rfl) T.rd T.cm (GOF.raw T.bOF .nil) h4 pass0 (pa_cons (pv 9) pa_nil)) T.cn.cl T.prH GPH h5 T.bPH .nil pass0 (by rfl)) pa_nil)) (nomark _)) (pss_one (ps_ret pe_bl)) pss_nil))))))))))))))
      (pss_one (ps_ret pe_bl))), ?_⟩
    -- for k
    refine ⟨.ref a, rfl, a, ns.map V.int, rfl, .inl hS, 5, ((ns.map V.int).length : Int), rfl, 2, _, rfl, _, rfl, ?_⟩
    generalize hm : (if (if ((ns.map V.int).length : Int) < 5 then ((ns.map V.int).length : Int) else 5) > 2 then (if ((ns.map V.int).length : Int) < 5 then ((ns.map V.int).length : Int) else 5) else 2) = m
    have m0 : 0 ≤ m ∧ m ≤ 5 := by subst hm; split <;> split <;> omega
    refine ⟨by omega, by omega, for_range (lo := 0) (n := m.toNat) (fun i σ H' => Same H H' ∧ ∃ r1 r2 r3 r4 r5 r6 r7 r8 r9 r10 r11 r12 : Option V, σ = [some (.ref a), r1, r2, r3, r4, r5, r6, r7, r8, r9, r10, r11, r12]) ⟨Same.refl H, _, _, _, _, _, _, _, _, _, _, _, _, rfl⟩ ?_ (fun σ H' _ => q H')⟩
    rintro i σ H' hi ⟨sm, r1, r2, r3, r4, r5, r6, r7, r8, r9, r10, r11, r12, rfl⟩
    refine ⟨.ref a, rfl, .int (0 + (i : Int)), rfl, a, ns, 0 + (i : Int), rfl, sm.seq hS, by omega, by omega, fun H1 f s1 nf fe => ?_⟩
    have hf0 : H f = none := sm.free nf
    have l2 : 2 ≤ sizeLine := by decide
    refine ⟨3, rfl, by decide, by decide, for_range (lo := 0) (n := (3 : Int).toNat) (fun _ σ H' => Same H H' ∧ FeedAt H' f ∧ ∃ r1 r3 r4 r5 r6 r7 r8 r9 r10 r11 r12 : Option V, σ = [some (.ref a), r1, some (.ref f), r3, r4, r5, r6, r7, r8, r9, r10, r11, r12]) ⟨sm.trans s1, fe, _, _, _, _, _, _, _, _, _, _, _, rfl⟩ ?_ ?_⟩
    case refine_2 =>
      rintro σ H' ⟨sm, _, r1, r3, r4, r5, r6, r7, r8, r9, r10, r11, r12, rfl⟩
      exact ⟨sm, _, _, _, _, _, _, _, _, _, _, _, _, rfl⟩
    clear sm fe s1 nf
    rintro t σ H1' _ ⟨sm1, fe1, r1, r3, r4, r5, r6, r7, r8, r9, r10, r11, r12, rfl⟩
    clear H1
    -- entries
    refine ⟨.ref f, rfl, f, 10, rfl, by decide, by decide, fe1, fun H2 e xs es c2 fe2 he nef tr good le => ?_⟩
    have sm2 : Same H H2 := c2.old hf0 sm1
    have lx := tr.length
    -- table
    refine ⟨.ref e, rfl, fun x dx nx ndx nd => make_tab he tr (by omega) nx ndx fun H3 s3 tab => ⟨rfl, ?_⟩⟩
    have sm3 := sm2.trans s3
    have fe3 := fe2.same s3
    have he3 := s3 _ _ he
    have tr3 := tr.same s3
    clear c2 fe2 he tr sm2 s3 nx ndx nd
    -- ranges
    refine ⟨10, rfl, by decide, by decide, fun D nD => ?_⟩
    have nDf := fe3.ne nD
    have nDe : D ≠ e := fun z => by rw [← z, nD] at he3; cases he3
    refine lc_range (lo := 0) (n := (10 : Int).toNat) (fun i Hz => Ch f H3 Hz ∧ FeedAt Hz f ∧ ∃ (acc : List V) (rs : List (Int × Int)), Hz D = some (.lst acc) ∧ PairsAt Hz acc rs ∧ rs.length = i) ⟨Ch.of_same (same_new nD), fe3.same (same_new nD), [], [], upd_same, trivial, rfl⟩ ?_ ?_
    · rintro i Hz hi ⟨cz, fz, acc, rs, eD, pa, lr⟩
      have hi10 : i < 10 := hi
      have la := pa.length
      refine ⟨rfl, iteT (B := True) ⟨.ref f, rfl, f, 12, rfl, by decide, by decide, fz, fun H4 p lo hi c4 fe4 np ep lh => ?_⟩⟩
      have eD4 := c4 _ _ nDf eD
      have pa4 : PairsAt H4 (acc ++ [.ref p]) (rs ++ [(lo, hi)]) := PairsAt.append (prs_ch c4 fz pa) ⟨⟨p, rfl, ep⟩, trivial⟩
      refine ⟨acc, eD4, Nat.lt_of_le_of_lt (show acc.length ≤ 3000 by omega) (by decide), Ch.again nD (cz.trans c4), fe4.upd nDf, acc ++ [.ref p], rs ++ [(lo, hi)], upd_same, ?_, by rw [List.length_append]; show rs.length + 1 = _; omega⟩
      exact prs_map (H := H4) (fun p a b z => by rw [upd_ne (fun q => by rw [q, eD4] at z; cases z)]; exact z) pa4
    rintro H5 ⟨c5, fe5, zs, rs, eD, pa, lr⟩
    have lr10 : rs.length = 10 := lr
    have sm5 : Same H H5 := c5.old hf0 sm3
    have tab5 := tab.ch c5 (fe_lst fe3)
    have he5 := c5 _ _ nef he3
    have tr5 := tr3.ch c5 (fe_lst fe3)
    clear sm3 fe3 he3 tr3 tab c5 lr
    -- for outer
    refine ⟨.ref D, rfl, D, rfl, ⟨_, SqL.of eD⟩, for_list (K := K) (a := D) (xs := zs) (fun _ σ Hz => Same H5 Hz ∧ ∃ r1 r3 r7 r8 r9 r10 r11 r12 : Option V, σ = [some (.ref a), r1, some (.ref f), r3, some (.ref e), some (.ref x), some (.ref D), r7, r8, r9, r10, r11, r12]) ⟨Same.refl _, _, _, _, _, _, _, _, _, rfl⟩ (fun _ _ _ _ z => SqL.of (z.1 _ _ eD)) ?_ ?_⟩
    · rintro i y σ H6 hy ⟨s6, r1, r3, r7, r8, r9, r10, r11, r12, rfl⟩
      obtain ⟨pu, u, rfl, eu, hpu⟩ := pairs_get pa hy
      refine ⟨.ref D, rfl, D, rfl, ⟨_, SqL.of (s6 _ _ eD)⟩, for_list (K := K) (a := D) (xs := zs) (fun _ σ Hz => Same H5 Hz ∧ ∃ r1 r3 r8 r9 r10 r11 r12 : Option V, σ = [some (.ref a), r1, some (.ref f), r3, some (.ref e), some (.ref x), some (.ref D), some (.ref pu), r8, r9, r10, r11, r12]) ⟨s6, _, _, _, _, _, _, _, rfl⟩ (fun _ _ _ _ z => SqL.of (z.1 _ _ eD)) ?_ ?_⟩
      · clear s6
        rintro j y σ H7 hy ⟨s7, r1, r3, r8, r9, r10, r11, r12, rfl⟩
        obtain ⟨pv, v, rfl, ev, hpv⟩ := pairs_get pa hy
        have hu7 := s7 _ _ hpu
        have hv7 := s7 _ _ hpv
        refine ⟨.ref pu, rfl, .ref pv, rfl, pu, pv, u.1, u.2, v.1, v.2, rfl, SqT.of hu7, SqT.of hv7, _, rfl, ite2 (fun hh => ?_) (fun _ => ⟨s7, _, _, _, _, _, _, _, rfl⟩)⟩
        have hh2 : u.1 ≤ v.1 ∧ v.2 ≤ u.2 := by simpa using hh
        have mono := amt_mono good hh2.1 hh2.2
        obtain ⟨dx, tx, yx, hx, _⟩ := id (tab5.same s7)
        refine ⟨.ref x, rfl, x, dx, _, rfl, hx, rfl, .ref pu, rfl, pu, _, 0, .int u.1, rfl, rfl, SqT.of hu7, rfl, .ref pu, rfl, pu, _, 1, .int u.2, rfl, rfl, SqT.of hu7, rfl, x, es, u.1, u.2, rfl, tab5.same s7, by omega, fun H8 s8 => ?_⟩
        have hv8 := s8 _ _ hv7
        refine ⟨.ref x, rfl, x, dx, _, rfl, s8 _ _ hx, rfl, .ref pv, rfl, pv, _, 0, .int v.1, rfl, rfl, SqT.of hv8, rfl, .ref pv, rfl, pv, _, 1, .int v.2, rfl, rfl, SqT.of hv8, rfl, x, es, v.1, v.2, rfl, (tab5.same s7).same s8, by omega, fun H9 s9 => ?_⟩
        exact ⟨_, _, rfl, rfl, _, rfl, ite2 (fun z => absurd (of_decide_eq_true z) (by omega)) (fun _ => ⟨s7.trans (s8.trans s9), _, _, _, _, _, _, _, rfl⟩)⟩
      rintro σ H7 ⟨s7, r1, r3, r8, r9, r10, r11, r12, rfl⟩
      exact ⟨s7, _, _, _, _, _, _, _, _, rfl⟩
    rintro σ H6 ⟨s6, r1, r3, r7, r8, r9, r10, r11, r12, rfl⟩
    have fe6 := fe5.same s6
    have eD6 := s6 _ _ eD
    have pa6 := pa.same s6
    have tab6 := tab5.same s6
    have sm6 := sm5.trans s6
    -- _law_more_right
    refine ⟨.ref f, rfl, .ref e, rfl, .ref D, rfl, f, e, D, xs, zs, es, rs, rfl, fe6, s6 _ _ he5, nef, tr5.same s6, good, le, eD6, nDf, pa6, by omega, fun H7 c7 fe7 => ⟨true, rfl, ?_⟩⟩
    refine iteF ?_
    have eD7 := c7 _ _ nDf eD6
    have pa7 := prs_ch c7 fe6 pa6
    have tab7 := tab6.ch c7 (fe_lst fe6)
    have sm7 : Same H H7 := c7.old hf0 sm6
    clear s6 fe5 eD pa tab5 sm5 he5 tr5 fe6 eD6 pa6 tab6 sm6 c7
    -- wear of two lists
    have sat : ∀ {Hx : Hp}, TabAt Hx CT x es → ∃ dx tt, Hx x = some (.ins CT dx [("entries", .ref tt)]) := fun ⟨dx, _, _, h, _⟩ => ⟨dx, _, h⟩
    obtain ⟨dx, fs, hx⟩ := sat tab7
    have lz := pa7.length
    refine ⟨.ref x, rfl, x, dx, _, rfl, hx, rfl, .ref D, rfl, .inl ⟨x, D, es, zs, rs, rfl, tab7, by omega, SqL.of eD7, pa7, by omega, fun H8 s8 => ?_⟩⟩
    refine ⟨.ref x, rfl, x, dx, _, rfl, s8 _ _ hx, rfl, .ref D, rfl, 4, rfl, D, zs, rfl, SqL.of (s8 _ _ eD7), fun p1 np1 => ?_⟩
    rw [show (some (4 : Int)) = some ((4 : Nat) : Int) from rfl, cutv_to]
    have s9 := s8.trans (same_new (o := .lst (zs.take 4)) np1)
    refine .inl ⟨x, p1, es, zs.take 4, rs.take 4, rfl, tab7.same s9, by omega, SqL.of upd_same, (pairs_take 4 pa7).same s9, by rw [List.length_take]; omega, fun H10 s10 => ?_⟩
    have s11 := s9.trans s10
    refine ⟨.ref x, rfl, x, dx, _, rfl, s11 _ _ hx, rfl, .ref D, rfl, 4, rfl, D, zs, rfl, SqL.of (s11 _ _ eD7), fun p2 np2 => ?_⟩
    rw [show (some (4 : Int)) = some ((4 : Nat) : Int) from rfl, cutv_from]
    have s12 := s11.trans (same_new (o := .lst (zs.drop 4)) np2)
    refine .inl ⟨x, p2, es, zs.drop 4, rs.drop 4, rfl, tab7.same s12, by omega, SqL.of upd_same, (pairs_drop 4 pa7).same s12, by rw [List.length_drop]; omega, fun H13 s13 => ?_⟩
    refine ⟨_, _, rfl, rfl, rfl, _, rfl, iteNS (by show V.int _ = V.int (wear es (rs.take 4) + wear es (rs.drop 4)); rw [← wear_app, List.take_append_drop]) ?_⟩
    have s14 := s12.trans s13
    have fe14 := fe7.same s14
    have tab14 := tab7.same s14
    have sm14 := sm7.trans s14
    clear s8 s9 s10 s11 s12 s13 s14 tab7 sm7 fe7 eD7 pa7 hx
    -- load
    refine ⟨.ref f, rfl, f, 15, rfl, by decide, by decide, fe14, fun H15 p ls c15 fe15 np0 hp hl hb => ?_⟩
    have hl15 : ls.length ≤ 15 := by omega
    have np : p ≠ f := fe14.ne np0
    have tab15 := tab14.ch c15 (fe_lst fe14)
    have sm15 : Same H H15 := c15.old hf0 sm14
    clear tab14 sm14 c15 fe14 hl
    -- less
    refine ⟨.ref p, rfl, p, rfl, ⟨_, SqL.of hp⟩, fun L nL => ?_⟩
    have nLf := fe15.ne nL
    refine lc_list (K := K) (a := p) (xs := ls.map V.int) (fun i Hz => Ch f H15 Hz ∧ FeedAt Hz f ∧ ∃ ms : List Int, ms.Sublist (ls.take i) ∧ Hz L = some (.lst (ms.map V.int))) ⟨Ch.of_same (same_new nL), fe15.same (same_new nL), [], List.nil_sublist _, upd_same⟩ (fun i Hz _ z => SqL.of (z.1 _ _ np hp)) ?_ ?_
    · rintro i y Hz hy ⟨cz, fz, ms, sub, eL⟩
      obtain ⟨r, er, rfl⟩ := int_at hy
      refine ⟨rfl, .ref f, rfl, f, 4, rfl, by decide, by decide, fz, fun Hc q0 cc fec g0 g1 => ?_⟩
      have eLc := cc _ _ nLf eL
      have tk : ls.take (i + 1) = ls.take i ++ [r] := by rw [List.take_add_one, er]; rfl
      refine ⟨_, 0, rfl, rfl, _, rfl, ite2 (fun _ => ?_) (fun _ => ?_)⟩
      · refine ⟨.int r, rfl, _, eLc, ?_, Ch.again nL (cz.trans cc), fec.upd nLf, ms ++ [r], ?_, ?_⟩
        · have := sub.length_le
          rw [List.length_take] at this
          rw [List.length_map]
          exact Nat.lt_of_le_of_lt (show _ ≤ 2000 by omega) (by decide)
        · rw [tk]
          exact sub.append (List.Sublist.refl _)
        · rw [upd_same, List.map_append]
          rfl
      · exact ⟨cz.trans cc, fec, ms, by rw [tk]; exact sub.trans (List.sublist_append_left _ _), eLc⟩
    rintro H20 ⟨c20, fe20, ms, sub, eL⟩
    have ez2 : ls.take (ls.map V.int).length = ls := by rw [List.length_map, List.take_length]
    rw [ez2] at sub
    have lms := sub.length_le
    have hp20 := c20 _ _ np hp
    have tab20 := tab15.ch c20 (fe_lst fe15)
    have sm20 : Same H H20 := c20.old hf0 sm15
    clear c20 tab15 sm15 fe15
    -- wear of both
    obtain ⟨dx, fs, hx⟩ := sat tab20
    have satC : ∀ {Hx : Hp} {y : Addr} {ds : List (Int × Int)} {rs : List Int}, CountAt Hx C y ds rs → ∃ dy fs, Hx y = some (.ins C dy fs) := fun ⟨dx, _, _, _, h, _⟩ => ⟨dx, _, h⟩
    refine ⟨.ref x, rfl, x, dx, _, rfl, hx, rfl, rfl, .ref L, rfl, L, ms, rfl, .inl (SqL.of eL), by omega, fun H21 y cs2 ds2 rs2 s21 ny ca run2 nf2 perm2 srt2 => ?_⟩
    obtain ⟨dy, fy, hy⟩ := satC ca
    have b1 := run2.len
    have b2 := tp_len ms
    have b3 : ds2.length = cs2.length := perm2.length_eq
    refine ⟨y, dy, fy, rfl, hy, y, ds2, rs2, rfl, ca, by omega, by omega, run2.zz (tp_zz ms), fun H22 t2 zs2 hs2 s22 et2 pe2 pm2 _ => ?_⟩
    have lh2 := pm2.length_eq
    simp only [List.length_append, sw_len] at lh2
    have s23 := s21.trans s22
    refine .inr ⟨x, t2, es, zs2, hs2, rfl, tab20.same s23, by omega, SqT.of et2, pe2, by omega, fun H24 s24 => ?_⟩
    have s25 := s23.trans s24
    refine ⟨.ref x, rfl, x, dx, _, rfl, s25 _ _ hx, rfl, rfl, .ref p, rfl, p, ls, rfl, .inl (SqL.of (s25 _ _ hp20)), by omega, fun H26 y1 cs1 ds1 rs1 s26 ny1 ca1 run1 nf1 perm1 srt1 => ?_⟩
    obtain ⟨dy1, fy1, hy1⟩ := satC ca1
    have d1 := run1.len
    have d2 := tp_len ls
    have d3 : ds1.length = cs1.length := perm1.length_eq
    refine ⟨y1, dy1, fy1, rfl, hy1, y1, ds1, rs1, rfl, ca1, by omega, by omega, run1.zz (tp_zz ls), fun H27 t1 zs1 hs1 s27 et1 pe1 pm1 _ => ?_⟩
    have lh1 := pm1.length_eq
    simp only [List.length_append, sw_len] at lh1
    have s28 := s25.trans (s26.trans s27)
    refine .inr ⟨x, t1, es, zs1, hs1, rfl, tab20.same s28, by omega, SqT.of et1, pe1, by omega, fun H29 s29 => ?_⟩
    have s30 := s28.trans s29
    have wl := wear_sub good sub run1 nf1 perm1 pm1 run2 nf2 perm2 pm2
    exact ⟨_, _, rfl, rfl, _, rfl, ite2 (fun z => absurd (of_decide_eq_true z) (by omega)) (fun _ => ⟨sm20.trans s30, fe20.same s30, _, _, _, _, _, _, _, _, _, _, _, rfl⟩)⟩
end
end V52

namespace V52EndN
open PySem PySem.Spec PyProof.Rows L2 KA KD KL PH PM PA PB PC RM RN QE QF QG QH K52b XT XU V52a
theorem all_mk {l : PySem.W.OpenLaw} {w : World} {K : PySem.W.Frag} {h : Heap} {mg : Str → Option Value} {fa C pO pE f1 f2 f3 fIL f4 f5 f6 fPB f7 f8 f9 f10 f11 f12 f13 f14 f15 fmI fmO fmE fmUI fmUA fmUW : Addr} (X : K.In h) (G : h.Ns mainGlobals mg) (hfa : mg "law" = some (.ref fa))
    {od1 an1 od2 an2 od3 an3 odIL anIL od4 an4 od5 an5 od6 an6 odPB anPB od7 an7 od8 an8 od9 an9 od10 an10 od11 an11 od12 an12 od13 an13 od14 an14 od15 an15 odmI anmI odmO anmO odmE anmE odmUI anmUI odmUA anmUA odmUW anmUW : Option Addr} {sl1 sl2 sl3 slIL sl4 sl5 sl6 slPB sl7 sl8 sl9 sl10 sl11 sl12 sl13 sl14 sl15 slmI slmO slmE slmUI slmUA slmUW : Array (Option Value)} {oc1 kV1 dc1 pm1 cd1 ct1 oc2 kV2 dc2 pm2 cd2 ct2 oc3 kV3 dc3 pm3 cd3 ct3 ocIL kVIL dcIL pmIL cdIL ctIL oc4 kV4 dc4 pm4 cd4 ct4 oc5 kV5 dc5 pm5 cd5 ct5 oc6 kV6 dc6 pm6 cd6 ct6 ocPB kVPB dcPB pmPB cdPB ctPB oc7 kV7 dc7 pm7 cd7 ct7 oc8 kV8 dc8 pm8 cd8 ct8 oc9 kV9 dc9 pm9 cd9 ct9 oc10 kV10 dc10 pm10 cd10 ct10 oc11 kV11 dc11 pm11 cd11 ct11 oc12 kV12 dc12 pm12 cd12 ct12 oc13 kV13 dc13 pm13 cd13 ct13 oc14 kV14 dc14 pm14 cd14 ct14 oc15 kV15 dc15 pm15 cd15 ct15 ocmI kVmI dcmI pmmI cdmI ctmI ocmO kVmO dcmO pmmO cdmO ctmO ocmE kVmE dcmE pmmE cdmE ctmE ocmUI kVmUI dcmUI pmmUI cdmUI ctmUI ocmUA kVmUA dcmUA pmmUA cdmUA ctmUA ocmUW kVmUW dcmUW pmmUW cdmUW ctmUW : Value} {rO rE : List Value} {CT : Addr}
    (a1 : PySem.W.nsIn K mainGlobals "contains" = some (some (.ref f1)))
    (l1 : K.lookup f1 = some ⟨oc1, od1, .func (PySem.W.fnOf "contains" "contains" (defArgs sCont) (defBody sCont) (defScope sCont) .none kV1 dc1 pm1 an1 cd1 ct1), sl1⟩)
    (c1 : PySem.W.codeIn K cd1 "contains" = true)
    (k1 : PySem.W.keepIn K (.ref f1) = true)
    (a2 : PySem.W.nsIn K mainGlobals "range_of" = some (some (.ref f2)))
    (l2 : K.lookup f2 = some ⟨oc2, od2, .func (PySem.W.fnOf "range_of" "range_of" (defArgs sRng) (defBody sRng) (defScope sRng) .none kV2 dc2 pm2 an2 cd2 ct2), sl2⟩)
    (c2 : PySem.W.codeIn K cd2 "range_of" = true)
    (k2 : PySem.W.keepIn K (.ref f2) = true)
    (a3 : PySem.W.nsIn K mainGlobals "turning_points" = some (some (.ref f3)))
    (l3 : K.lookup f3 = some ⟨oc3, od3, .func (PySem.W.fnOf "turning_points" "turning_points" (defArgs sTP) (defBody sTP) (defScope sTP) .none kV3 dc3 pm3 an3 cd3 ct3), sl3⟩)
    (c3 : PySem.W.codeIn K cd3 "turning_points" = true)
    (k3 : PySem.W.keepIn K (.ref f3) = true)
    (aIL : PySem.W.nsIn K mainGlobals "is_left_out" = some (some (.ref fIL))) (lIL : K.lookup fIL = some ⟨ocIL, odIL, .func (PySem.W.fnOf "is_left_out" "is_left_out" (defArgs sLO) (defBody sLO) (defScope sLO) .none kVIL dcIL pmIL anIL cdIL ctIL), slIL⟩) (cIL : PySem.W.codeIn K cdIL "is_left_out" = true) (kIL : PySem.W.keepIn K (.ref fIL) = true)
    (a4 : PySem.W.nsIn K mainGlobals "_lies_between" = some (some (.ref f4)))
    (l4 : K.lookup f4 = some ⟨oc4, od4, .func (PySem.W.fnOf "_lies_between" "_lies_between" (defArgs sBtw) (defBody sBtw) (defScope sBtw) .none kV4 dc4 pm4 an4 cd4 ct4), sl4⟩)
    (c4 : PySem.W.codeIn K cd4 "_lies_between" = true)
    (k4 : PySem.W.keepIn K (.ref f4) = true)
    (a5 : PySem.W.nsIn K mainGlobals "swings" = some (some (.ref f5)))
    (l5 : K.lookup f5 = some ⟨oc5, od5, .func (PySem.W.fnOf "swings" "swings" (defArgs sSw) (defBody sSw) (defScope sSw) .none kV5 dc5 pm5 an5 cd5 ct5), sl5⟩)
    (c5 : PySem.W.codeIn K cd5 "swings" = true)
    (k5 : PySem.W.keepIn K (.ref f5) = true)
    (a6 : PySem.W.nsIn K mainGlobals "_may_be_taken" = some (some (.ref f6)))
    (l6 : K.lookup f6 = some ⟨oc6, od6, .func (PySem.W.fnOf "_may_be_taken" "_may_be_taken" (defArgs sMT) (defBody sMT) (defScope sMT) .none kV6 dc6 pm6 an6 cd6 ct6), sl6⟩)
    (c6 : PySem.W.codeIn K cd6 "_may_be_taken" = true)
    (k6 : PySem.W.keepIn K (.ref f6) = true)
    (aPB : PySem.W.nsIn K mainGlobals "put_behind" = some (some (.ref fPB))) (lPB : K.lookup fPB = some ⟨ocPB, odPB, .func (PySem.W.fnOf "put_behind" "put_behind" (defArgs sPB) (defBody sPB) (defScope sPB) .none kVPB dcPB pmPB anPB cdPB ctPB), slPB⟩) (cPB : PySem.W.codeIn K cdPB "put_behind" = true) (kPB : PySem.W.keepIn K (.ref fPB) = true)
    (a7 : PySem.W.nsIn K mainGlobals "_counted" = some (some (.ref f7)))
    (l7 : K.lookup f7 = some ⟨oc7, od7, .func (PySem.W.fnOf "_counted" "_counted" (defArgs sCo) (defBody sCo) (defScope sCo) .none kV7 dc7 pm7 an7 cd7 ct7), sl7⟩)
    (c7 : PySem.W.codeIn K cd7 "_counted" = true)
    (k7 : PySem.W.keepIn K (.ref f7) = true)
    (a8 : PySem.W.nsIn K mainGlobals "_law_feed" = some (some (.ref f8)))
    (l8 : K.lookup f8 = some ⟨oc8, od8, .func (PySem.W.fnOf "_law_feed" "_law_feed" (defArgs sFeed) (defBody sFeed) (defScope sFeed) .none kV8 dc8 pm8 an8 cd8 ct8), sl8⟩)
    (c8 : PySem.W.codeIn K cd8 "_law_feed" = true)
    (k8 : PySem.W.keepIn K (.ref f8) = true)
    (a9 : PySem.W.nsIn K mainGlobals "_law_take" = some (some (.ref f9)))
    (l9 : K.lookup f9 = some ⟨oc9, od9, .func (PySem.W.fnOf "_law_take" "_law_take" (defArgs sTake) (defBody sTake) (defScope sTake) .none kV9 dc9 pm9 an9 cd9 ct9), sl9⟩)
    (c9 : PySem.W.codeIn K cd9 "_law_take" = true)
    (k9 : PySem.W.keepIn K (.ref f9) = true)
    (a10 : PySem.W.nsIn K mainGlobals "_law_pick" = some (some (.ref f10)))
    (l10 : K.lookup f10 = some ⟨oc10, od10, .func (PySem.W.fnOf "_law_pick" "_law_pick" (defArgs sPick) (defBody sPick) (defScope sPick) .none kV10 dc10 pm10 an10 cd10 ct10), sl10⟩)
    (c10 : PySem.W.codeIn K cd10 "_law_pick" = true)
    (k10 : PySem.W.keepIn K (.ref f10) = true)
    (a11 : PySem.W.nsIn K mainGlobals "_law_load" = some (some (.ref f11)))
    (l11 : K.lookup f11 = some ⟨oc11, od11, .func (PySem.W.fnOf "_law_load" "_law_load" (defArgs sLoad) (defBody sLoad) (defScope sLoad) .none kV11 dc11 pm11 an11 cd11 ct11), sl11⟩)
    (c11 : PySem.W.codeIn K cd11 "_law_load" = true)
    (k11 : PySem.W.keepIn K (.ref f11) = true)
    (a12 : PySem.W.nsIn K mainGlobals "_law_interval" = some (some (.ref f12)))
    (l12 : K.lookup f12 = some ⟨oc12, od12, .func (PySem.W.fnOf "_law_interval" "_law_interval" (defArgs sIv) (defBody sIv) (defScope sIv) .none kV12 dc12 pm12 an12 cd12 ct12), sl12⟩)
    (c12 : PySem.W.codeIn K cd12 "_law_interval" = true)
    (k12 : PySem.W.keepIn K (.ref f12) = true)
    (a13 : PySem.W.nsIn K mainGlobals "_law_entries" = some (some (.ref f13)))
    (l13 : K.lookup f13 = some ⟨oc13, od13, .func (PySem.W.fnOf "_law_entries" "_law_entries" (defArgs sEn) (defBody sEn) (defScope sEn) .none kV13 dc13 pm13 an13 cd13 ct13), sl13⟩)
    (c13 : PySem.W.codeIn K cd13 "_law_entries" = true)
    (k13 : PySem.W.keepIn K (.ref f13) = true)
    (a14 : PySem.W.nsIn K mainGlobals "_law_more_right" = some (some (.ref f14)))
    (l14 : K.lookup f14 = some ⟨oc14, od14, .func (PySem.W.fnOf "_law_more_right" "_law_more_right" (defArgs sMR) (defBody sMR) (defScope sMR) .none kV14 dc14 pm14 an14 cd14 ct14), sl14⟩)
    (c14 : PySem.W.codeIn K cd14 "_law_more_right" = true)
    (k14 : PySem.W.keepIn K (.ref f14) = true)
    (a15 : PySem.W.nsIn K mainGlobals "law" = some (some (.ref f15)))
    (l15 : K.lookup f15 = some ⟨oc15, od15, .func (PySem.W.fnOf "law" "law" (defArgs sLaw) (defBody sLaw) (defScope sLaw) .none kV15 dc15 pm15 an15 cd15 ct15), sl15⟩)
    (c15 : PySem.W.codeIn K cd15 "law" = true)
    (k15 : PySem.W.keepIn K (.ref f15) = true)
    (aC : PySem.W.nsIn K mainGlobals "Count" = some (some (.ref C)))
    (pg : PySem.W.plainGet K C Str.empty = true)
    (hd : PySem.W.hasDictIn K C = true)
    (po : PySem.W.plainOver K C = true)
    (sa : PySem.W.findIn K (.ref C) "__setattr__" = some (some (.builtin "object.__setattr__")))
    (nC : PySem.W.findIn K (.ref C) "_cycles" = some none)
    (nR : PySem.W.findIn K (.ref C) "_rest" = some none)
    (mk : PySem.W.makesIn K C = true)
    (kc : PySem.W.keepIn K (.ref C) = true)
    (aI : PySem.W.findIn K (.ref C) "__init__" = some (some (.ref fmI)))
    (iI : PySem.W.isFn K (.ref fmI) = true)
    (lmI : K.lookup fmI = some ⟨ocmI, odmI, .func (PySem.W.fnOf "__init__" "Count.__init__" (defArgs sInit) (defBody sInit) (defScope sInit) .none kVmI dcmI pmmI anmI cdmI ctmI), slmI⟩)
    (cmI : PySem.W.codeIn K cdmI "Count.__init__" = true)
    (kmI : PySem.W.keepIn K (.ref fmI) = true)
    (rd : PySem.W.readsIn K C (.type "type") = true)
    (ga : PySem.W.specialIn K (.ref C) "__getattribute__" = some (some (.builtin "type.__getattribute__")))
    (aO : PySem.W.findCls K (.ref C) (.type "type") "of" = some (.get (.builtin "classmethod.__get__") (.ref pO) .none (.ref C)))
    (rcO : PySem.W.recIn K pO "classmethod" = some (.ref fmO :: rO))
    (fiO : PySem.W.fnIn K fmO = true)
    (lmO : K.lookup fmO = some ⟨ocmO, odmO, .func (PySem.W.fnOf "of" "Count.of" (defArgs sOf) (defBody sOf) (defScope sOf) .none kVmO dcmO pmmO anmO cdmO ctmO), slmO⟩)
    (cmO : PySem.W.codeIn K cdmO "Count.of" = true)
    (kmO : PySem.W.keepIn K (.ref fmO) = true)
    (aPE : PySem.W.findIn K (.ref C) "half_cycles" = some (some (.ref pE)))
    (gPE : PySem.W.specialIn K (.ref pE) "__get__" = some (some (.builtin "property.__get__")))
    (tPE : PySem.W.takesIn K (.ref pE) = some true)
    (rcPE : PySem.W.recIn K pE "property" = some (.ref fmE :: rE))
    (lmE : K.lookup fmE = some ⟨ocmE, odmE, .func (PySem.W.fnOf "half_cycles" "Count.half_cycles" (defArgs sPH) (defBody sPH) (defScope sPH) .none kVmE dcmE pmmE anmE cdmE ctmE), slmE⟩)
    (cmE : PySem.W.codeIn K cdmE "Count.half_cycles" = true)
    (kmE : PySem.W.keepIn K (.ref fmE) = true)
    (aCT : PySem.W.nsIn K mainGlobals "Table" = some (some (.ref CT)))
    (pgT : PySem.W.plainGet K CT Str.empty = true)
    (hdT : PySem.W.hasDictIn K CT = true)
    (poT : PySem.W.plainOver K CT = true)
    (saT : PySem.W.findIn K (.ref CT) "__setattr__" = some (some (.builtin "object.__setattr__")))
    (nE : PySem.W.findIn K (.ref CT) "entries" = some none)
    (mkT : PySem.W.makesIn K CT = true)
    (kcT : PySem.W.keepIn K (.ref CT) = true)
    (aUI : PySem.W.findIn K (.ref CT) "__init__" = some (some (.ref fmUI)))
    (iUI : PySem.W.isFn K (.ref fmUI) = true)
    (lmUI : K.lookup fmUI = some ⟨ocmUI, odmUI, .func (PySem.W.fnOf "__init__" "Table.__init__" (defArgs XT.sTI) (defBody XT.sTI) (defScope XT.sTI) .none kVmUI dcmUI pmmUI anmUI cdmUI ctmUI), slmUI⟩)
    (cmUI : PySem.W.codeIn K cdmUI "Table.__init__" = true)
    (kmUI : PySem.W.keepIn K (.ref fmUI) = true)
    (aUA : PySem.W.findIn K (.ref CT) "amount" = some (some (.ref fmUA)))
    (iUA : PySem.W.isFn K (.ref fmUA) = true)
    (lmUA : K.lookup fmUA = some ⟨ocmUA, odmUA, .func (PySem.W.fnOf "amount" "Table.amount" (defArgs XT.sTA) (defBody XT.sTA) (defScope XT.sTA) .none kVmUA dcmUA pmmUA anmUA cdmUA ctmUA), slmUA⟩)
    (cmUA : PySem.W.codeIn K cdmUA "Table.amount" = true)
    (kmUA : PySem.W.keepIn K (.ref fmUA) = true)
    (aUW : PySem.W.findIn K (.ref CT) "wear" = some (some (.ref fmUW)))
    (iUW : PySem.W.isFn K (.ref fmUW) = true)
    (lmUW : K.lookup fmUW = some ⟨ocmUW, odmUW, .func (PySem.W.fnOf "wear" "Table.wear" (defArgs XT.sTW) (defBody XT.sTW) (defScope XT.sTW) .none kVmUW dcmUW pmmUW anmUW cdmUW ctmUW), slmUW⟩)
    (cmUW : PySem.W.codeIn K cdmUW "Table.wear" = true)
    (kmUW : PySem.W.keepIn K (.ref fmUW) = true)
    (z1 : PySem.W.nsIn K mainGlobals "len" = some none)
    (z2 : PySem.W.nsIn K mainGlobals "zip" = some none)
    (z3 : PySem.W.nsIn K mainGlobals "max" = some none)
    (z4 : PySem.W.nsIn K mainGlobals "min" = some none)
    (z5 : PySem.W.nsIn K mainGlobals "abs" = some none)
    (z6 : PySem.W.nsIn K mainGlobals "range" = some none)
    (z7 : PySem.W.nsIn K mainGlobals "sorted" = some none)
    (z8 : PySem.W.nsIn K mainGlobals "tuple" = some none)
    (z9 : PySem.W.nsIn K mainGlobals "sum" = some none) :
    ∃ fd : FuncData, (∀ (s : Shared) (v : Value), BindsTo s fd ⟨[v], []⟩ [("script", v)]) ∧ ∀ base : Heap, K.In base → base.Ns mainGlobals mg → KW.Kept l.prog w K mg base 8 fa fd ["script"] (V52.spLaw K) := by
  have e := hfa.symm.trans (PySem.W.mg_of X G a15)
  cases e
  have F1 := fun_mk (st := sCont) l1 c1 k1
  have F2 := fun_mk (st := sRng) l2 c2 k2
  have F3 := fun_mk (st := sTP) l3 c3 k3
  have FIL := fun_mk (st := sLO) lIL cIL kIL
  have F4 := fun_mk (st := sBtw) l4 c4 k4
  have F5 := fun_mk (st := sSw) l5 c5 k5
  have F6 := fun_mk (st := sMT) l6 c6 k6
  have FPB := fun_mk (st := sPB) lPB cPB kPB
  have F7 := fun_mk (st := sCo) l7 c7 k7
  have F8 := fun_mk (st := sFeed) l8 c8 k8
  have F9 := fun_mk (st := sTake) l9 c9 k9
  have F10 := fun_mk (st := sPick) l10 c10 k10
  have F11 := fun_mk (st := sLoad) l11 c11 k11
  have F12 := fun_mk (st := sIv) l12 c12 k12
  have F13 := fun_mk (st := sEn) l13 c13 k13
  have F14 := fun_mk (st := sMR) l14 c14 k14
  have F15 := fun_mk (st := sLaw) l15 c15 k15
  have FmI := fun_mk (st := sInit) lmI cmI kmI
  have FmO := fun_mk (st := sOf) lmO cmO kmO
  have FmE := fun_mk (st := sPH) lmE cmE kmE
  have FmUI := fun_mk (st := XT.sTI) lmUI cmUI kmUI
  have FmUA := fun_mk (st := XT.sTA) lmUA cmUA kmUA
  have FmUW := fun_mk (st := XT.sTW) lmUW cmUW kmUW
  have b1 := F1.binds (ps := ["outer", "inner"]) fun _ _ _ _ _ _ us hl => match us, hl with | [_, _], _ => rfl
  have b2 := F2.binds (ps := ["one", "other"]) fun _ _ _ _ _ _ us hl => match us, hl with | [_, _], _ => rfl
  have b3 := F3.binds (ps := ["load"]) fun _ _ _ _ _ _ us hl => match us, hl with | [_], _ => rfl
  have bIL := FIL.binds (ps := ["points", "reading"]) fun _ _ _ _ _ _ us hl => match us, hl with | [_, _], _ => rfl
  have b4 := F4.binds (ps := ["reading", "before", "after"]) fun _ _ _ _ _ _ us hl => match us, hl with | [_, _, _], _ => rfl
  have b5 := F5.binds (ps := ["load"]) fun _ _ _ _ _ _ us hl => match us, hl with | [_], _ => rfl
  have b6 := F6.binds (ps := ["points", "place"]) fun _ _ _ _ _ _ us hl => match us, hl with | [_, _], _ => rfl
  have bPB := FPB.binds (ps := ["rest", "reading"]) fun _ _ _ _ _ _ us hl => match us, hl with | [_, _], _ => rfl
  have b7 := F7.binds (ps := ["load"]) fun _ _ _ _ _ _ us hl => match us, hl with | [_], _ => rfl
  have b8 := F8.binds (ps := ["script", "k"]) fun _ _ _ _ _ _ us hl => match us, hl with | [_, _], _ => rfl
  have b9 := F9.binds (ps := ["feed", "many"]) fun _ _ _ _ _ _ us hl => match us, hl with | [_, _], _ => rfl
  have b10 := F10.binds (ps := ["feed", "some"]) fun _ _ _ _ _ _ us hl => match us, hl with | [_, _], _ => rfl
  have b11 := F11.binds (ps := ["feed", "most"]) fun _ _ _ _ _ _ us hl => match us, hl with | [_, _], _ => rfl
  have b12 := F12.binds (ps := ["feed", "most"]) fun _ _ _ _ _ _ us hl => match us, hl with | [_, _], _ => rfl
  have b13 := F13.binds (ps := ["feed", "most"]) fun _ _ _ _ _ _ us hl => match us, hl with | [_, _], _ => rfl
  have b14 := F14.binds (ps := ["feed", "entries", "ranges"]) fun _ _ _ _ _ _ us hl => match us, hl with | [_, _, _], _ => rfl
  have bmI := FmI.binds (ps := ["self", "cycles", "rest"]) fun _ _ _ _ _ _ us hl => match us, hl with | [_, _, _], _ => rfl
  have bmO := FmO.binds (ps := ["cls", "load"]) fun _ _ _ _ _ _ us hl => match us, hl with | [_, _], _ => rfl
  have bmE := FmE.binds (ps := ["self"]) fun _ _ _ _ _ _ us hl => match us, hl with | [_], _ => rfl
  have bmUI := FmUI.binds (ps := ["self", "entries"]) fun _ _ _ _ _ _ us hl => match us, hl with | [_, _], _ => rfl
  have bmUA := FmUA.binds (ps := ["self", "low", "high"]) fun _ _ _ _ _ _ us hl => match us, hl with | [_, _, _], _ => rfl
  have bmUW := FmUW.binds (ps := ["self", "ranges"]) fun _ _ _ _ _ _ us hl => match us, hl with | [_, _], _ => rfl
  have T : Txt K mg f1 f2 f3 fIL f4 f5 f6 fPB f7 f8 f9 f10 f11 f12 f13 f14 C fmI pO fmO pE fmE CT fmUI fmUA fmUW _ _ _ _ _ _ _ _ _ _ _ _ _ _ _ _ _ _ _ _ _ _ := ⟨F1, PySem.W.mg_of X G a1, k1, b1, F2, PySem.W.mg_of X G a2, k2, b2, F3, PySem.W.mg_of X G a3, k3, b3, FIL, PySem.W.mg_of X G aIL, kIL, bIL, F4, PySem.W.mg_of X G a4, k4, b4, F5, PySem.W.mg_of X G a5, k5, b5, F6, PySem.W.mg_of X G a6, k6, b6, FPB, PySem.W.mg_of X G aPB, kPB, bPB, F7, PySem.W.mg_of X G a7, k7, b7, F8, PySem.W.mg_of X G a8, k8, b8, F9, PySem.W.mg_of X G a9, k9, b9, F10, PySem.W.mg_of X G a10, k10, b10, F11, PySem.W.mg_of X G a11, k11, b11, F12, PySem.W.mg_of X G a12, k12, b12, F13, PySem.W.mg_of X G a13, k13, b13, F14, PySem.W.mg_of X G a14, k14, b14, PySem.W.mg_of X G aC, ⟨⟨pg, hd, po, sa⟩, nC, nR⟩, ⟨mk, aI, iI, kc⟩, FmI, bmI, ⟨rd, ga⟩, ⟨aO, ⟨_, rcO⟩, fiO⟩, FmO, bmO, ⟨aPE, gPE, tPE, ⟨_, rcPE⟩⟩, FmE, bmE, PySem.W.mg_of X G aCT, ⟨⟨pgT, hdT, poT, saT⟩, nE⟩, ⟨mkT, aUI, iUI, kcT⟩, FmUI, bmUI, ⟨aUA, iUA, kmUA⟩, FmUA, bmUA, ⟨aUW, iUW, kmUW⟩, FmUW, bmUW, PySem.W.mg_none_of X G z1, PySem.W.mg_none_of X G z2, PySem.W.mg_none_of X G z3, PySem.W.mg_none_of X G z4, PySem.W.mg_none_of X G z5, PySem.W.mg_none_of X G z6, PySem.W.mg_none_of X G z7, PySem.W.mg_none_of X G z8, PySem.W.mg_none_of X G z9⟩
  exact ⟨PySem.W.fnOf "law" "law" (defArgs sLaw) (defBody sLaw) (defScope sLaw) .none kV15 dc15 pm15 an15 cd15 ct15, fun s v => .of_eq rfl, fun base _ _ => V52.ok_law F15 T⟩
end V52EndN
open PySem PySem.W PyProof.Rows
set_option maxRecDepth 100000 in
set_option maxHeartbeats 0 in
theorem PySem.Challenge.cw_wearswings_k52_whole_tables_grow_holds : PySem.Challenge.rw_wearswings_k52_whole_tables_grow.Holds := by
  w_on; o_law; k_head; (case hw => w_witness2)
  k_fill
  refine KW.walk_kept (l := PySem.Challenge.rw_wearswings_k52_whole_tables_grow) (n := 63) (k := 8) (x := "script") (sp := V52.spLaw) rfl (by decide) rfl ⟨rfl, by decide, by decide⟩ (fun w h Y => PySem.W.kIn_of Y) ?F (fun K H a ns hl _ hS => ⟨a, ns, rfl, hS, hl, fun _ => rfl⟩)
  case F =>
    intro w mg fa h KX G hmg
    refine' V52EndN.all_mk KX G hmg ?a1 ?l1 ?c1 ?k1 ?a2 ?l2 ?c2 ?k2 ?a3 ?l3 ?c3 ?k3 ?aIL ?lIL ?cIL ?kIL ?a4 ?l4 ?c4 ?k4 ?a5 ?l5 ?c5 ?k5 ?a6 ?l6 ?c6 ?k6 ?aPB ?lPB ?cPB ?kPB ?a7 ?l7 ?c7 ?k7 ?a8 ?l8 ?c8 ?k8 ?a9 ?l9 ?c9 ?k9 ?a10 ?l10 ?c10 ?k10 ?a11 ?l11 ?c11 ?k11 ?a12 ?l12 ?c12 ?k12 ?a13 ?l13 ?c13 ?k13 ?a14 ?l14 ?c14 ?k14 ?a15 ?l15 ?c15 ?k15 ?aC ?pg ?hd ?po ?sa ?nC ?nR ?mk ?kc ?aI ?iI ?lmI ?cmI ?kmI ?rd ?ga ?aO ?rcO ?fiO ?lmO ?cmO ?kmO ?aPE ?gPE ?tPE ?rcPE ?lmE ?cmE ?kmE ?aCT ?pgT ?hdT ?poT ?saT ?nE ?mkT ?kcT ?aUI ?iUI ?lmUI ?cmUI ?kmUI ?aUA ?iUA ?lmUA ?cmUA ?kmUA ?aUW ?iUW ?lmUW ?cmUW ?kmUW ?z1 ?z2 ?z3 ?z4 ?z5 ?z6 ?z7 ?z8 ?z9
    (case a1 => k_is)
    (case l1 => k_is)
    (case c1 => k_is)
    (case k1 => k_is)
    (case a2 => k_is)
    (case l2 => k_is)
    (case c2 => k_is)
    (case k2 => k_is)
    (case a3 => k_is)
    (case l3 => k_is)
    (case c3 => k_is)
    (case k3 => k_is)
    (case aIL => k_is)
    (case lIL => k_is)
    (case cIL => k_is)
    (case kIL => k_is)
    (case a4 => k_is)
    (case l4 => k_is)
    (case c4 => k_is)
    (case k4 => k_is)
    (case a5 => k_is)
    (case l5 => k_is)
    (case c5 => k_is)
    (case k5 => k_is)
    (case a6 => k_is)
    (case l6 => k_is)
    (case c6 => k_is)
    (case k6 => k_is)
    (case aPB => k_is)
    (case lPB => k_is)
    (case cPB => k_is)
    (case kPB => k_is)
    (case a7 => k_is)
    (case l7 => k_is)
    (case c7 => k_is)
    (case k7 => k_is)
    (case a8 => k_is)
    (case l8 => k_is)
    (case c8 => k_is)
    (case k8 => k_is)
    (case a9 => k_is)
    (case l9 => k_is)
    (case c9 => k_is)
    (case k9 => k_is)
    (case a10 => k_is)
    (case l10 => k_is)
    (case c10 => k_is)
    (case k10 => k_is)
    (case a11 => k_is)
    (case l11 => k_is)
    (case c11 => k_is)
    (case k11 => k_is)
    (case a12 => k_is)
    (case l12 => k_is)
    (case c12 => k_is)
    (case k12 => k_is)
    (case a13 => k_is)
    (case l13 => k_is)
    (case c13 => k_is)
    (case k13 => k_is)
    (case a14 => k_is)
    (case l14 => k_is)
    (case c14 => k_is)
    (case k14 => k_is)
    (case a15 => k_is)
    (case l15 => k_is)
    (case c15 => k_is)
    (case k15 => k_is)
    (case aC => k_is)
    (case pg => k_is)
    (case hd => k_is)
    (case po => k_is)
    (case sa => k_is)
    (case nC => k_is)
    (case nR => k_is)
    (case mk => k_is)
    (case kc => k_is)
    (case aI => k_is)
    (case iI => k_is)
    (case lmI => k_is)
    (case cmI => k_is)
    (case kmI => k_is)
    (case rd => k_is)
    (case ga => k_is)
    (case aO => k_is)
    (case rcO => k_is)
    (case fiO => k_is)
    (case lmO => k_is)
    (case cmO => k_is)
    (case kmO => k_is)
    (case aPE => k_is)
    (case gPE => k_is)
    (case tPE => k_is)
    (case rcPE => k_is)
    (case lmE => k_is)
    (case cmE => k_is)
    (case kmE => k_is)
    (case aCT => k_is)
    (case pgT => k_is)
    (case hdT => k_is)
    (case poT => k_is)
    (case saT => k_is)
    (case nE => k_is)
    (case mkT => k_is)
    (case kcT => k_is)
    (case aUI => k_is)
    (case iUI => k_is)
    (case lmUI => k_is)
    (case cmUI => k_is)
    (case kmUI => k_is)
    (case aUA => k_is)
    (case iUA => k_is)
    (case lmUA => k_is)
    (case cmUA => k_is)
    (case kmUA => k_is)
    (case aUW => k_is)
    (case iUW => k_is)
    (case lmUW => k_is)
    (case cmUW => k_is)
    (case kmUW => k_is)
    (case z1 => k_is)
    (case z2 => k_is)
    (case z3 => k_is)
    (case z4 => k_is)
    (case z5 => k_is)
    (case z6 => k_is)
    (case z7 => k_is)
    (case z8 => k_is)
    (case z9 => k_is)

